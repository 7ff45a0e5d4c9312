import Derived.Defers
import Derived.Lib.AppendIntMem
import Derived.Lib.ItoaLen
import Derived.Test.YtllcbnfmihfaaaaGreatDoorCq10
import Derived.Test.YtllcbnfmihfaaaaGreatDoorCq06
set_option maxRecDepth 100000
set_option maxHeartbeats 8000000
namespace Go.Proofs.YtllcbnfmihfaaaaGreatDoor
open Go.Proofs.Tryz
variable {V W W' w:World}{N b base:Nat}
section
open Go.RowKit
theorem Cfg.f1 (c:Cfg):c.arr[1]? = some (.slice c.ea c.L.length c.ecap):=rfl
def qie (c:Int)(n:Nat):Nat:=((if c<0 then -(c+1) else c)%(n:Int)).toNat
theorem qr6 (c:Int)(n:Nat)(h:1≤n):qie c n<n:=by
 unfold qie;have e1:=Int.emod_nonneg (if c<0 then -(c+1) else c) (show(n:Int)≠0 by omega);have e2:=Int.emod_lt_of_pos (if c<0 then -(c+1) else c) (show(0:Int)<n by omega);omega
theorem qad.same {V':World}{s0 s:Src}(h0:qad W b s0)(hia:s.ia=s0.ia)(hbs:s.bs=s0.bs)(h:qad V b s)(hk:∀k,k<W.heap.size→V'.heap[k]? = V.heap[k]?):qad V' b s:=by
 have hb:=ltA h0.row;refine⟨(hk b hb).trans h.row,fun i hi => ?_,h.len,h.le⟩;obtain⟨g,off,e1,e2,e3⟩:=h.inp i hi;obtain⟨g0,off0,f1,f2,f3⟩:=h0.inp i (by rw[←hbs];exact hi);have hg:g=g0:=by
  rw[hia,f1] at e1;injection e1 with e1;injection e1 with e1;exact e1.symm
 refine⟨g,off,e1,e2,?_⟩;rw[World.cell?_of_block (w:=V) (hk g (by rw[hg];exact block_lt_of_cell f3))];exact e3
theorem qdK {P:Program}{fn:Func}{R:Ending→World→Prop}{t t':Array Value}(h:results fn t=results fn t'):∀(ds:List Deferred) (u:FrameMode) (w:World),Leaves P fn t R ds u w→Leaves P fn t' R ds u w
 |[],.returning,_,H=>by
  unfold Leaves at *;rw[←h];exact H
 |[],.panicking _,_,H=>H
 |[],.run,_,H=>H
 |_::ds,_,_,H=>by
  obtain⟨h1,fv,cap,f,args,h2,h3,h4⟩:=H;refine⟨h1,fv,cap,f,args,h2,h3,h4.mono fun e u' w' hh => ?_⟩
  cases e with
  |returned v=>exact qdK h ds _ _ hh
  |panicked c=>exact qdK h ds _ _ hh
  |outgrown=>exact hh
theorem qbt {P:Program}{fn:Func}{R:Ending→World→Prop}(hres:fn.results=#[.tmp 2])(d:Tmp)(hd:d≠2)(v:Value)(c:List PanicEntry)(a:Act)(w:World)(h:bodyPostD P fn R (.panic c) (a.put (some d) v) w):bodyPostD P fn R (.panic c) a w:=by
 refine qdK (t:=(a.put (some d) v).tmps) ?_ _ _ _ h;unfold results;rw[hres];have e:(a.put (some d) v).tmps[2]?.getD undef=a.tmps[2]?.getD undef:=by
  show(a.tmps.setIfInBounds d v)[2]?.getD undef=_;rw[Array.getElem?_setIfInBounds_ne hd]
 simp[e]
theorem qev {P:Program}{fn:Func}(hres:fn.results=#[.tmp 2])(t:Array Value)(w:World):(results fn t).run P w=.ok (t.getD 2 undef) w:=by
 unfold results;rw[hres];simp
structure qnk (W0:World)(b N M:Nat)(fv:Value)(so w g:Nat)(s:Src)(W:World):Prop where
 src:qad W b s
 but:But b W0 W
 box:W.heap[N]? = some (.cells #[.pointer (some ⟨b,0,none⟩),fv] 201)
 hd:W.heap[M]? = some (.cells #[.int .i64 so,.int .i64 w,.int .u64 g] 273)
 ne:b<N
 nm:b<M
theorem qnk.step {W0:World}{M:Nat}{fv:Value}{so w g:Nat}{s s':Src}(h:qnk W0 b N M fv so w g s W)(hs:qad W' b s')(hb:But b W W'):qnk W0 b N M fv so w g s' W' :=
 ⟨hs,h.but.trans hb,(hb.block _ (ltA h.box) (by have:=h.ne;omega)).trans h.box,(hb.block _ (ltA h.hd) (by have:=h.nm;omega)).trans h.hd,h.ne,h.nm⟩
theorem qe3 {fv:Value}{so w g:Nat}{s:Src}(M:Nat)(h0:qad W b s)(hV:qad V b s.next)(hB:But b W V)(hbox:V.heap[W.heap.size]? = some (.cells #[.pointer (some ⟨b,0,none⟩),fv] 201))(hM:W.heap.size<M)(hz:V.heap[M]? = some (.cells #[.int .i64 0,.int .i64 0,.int .u64 0] 273)):qnk W b W.heap.size M fv so w g s.next (V.setRow M #[.int .i64 so,.int .i64 w,.int .u64 g]):=by
 have hb:=ltA h0.row;refine⟨h0.same rfl rfl hV (fun k hk=>setRow_other _ _ _ _ (by omega)),⟨hB.os,hB.tape,hB.output,by simpa using hB.size,fun k hk hne=>sx (by omega) (hB.block k hk hne)⟩,sx (by omega) hbox,setRow_heap _ _ _ _ _ _ hz,hb,by omega⟩
theorem qip (W:World):Own W W.heap.size (.slice none 0 0) []:=by
 refine⟨?_,Nat.le_refl _,none,0,0,rfl⟩;exact World.ownsRow_nil ..
def qaE (W:World)(m:Nat)(ks:List (List UInt8)):Prop:=∃D,W.ownsMap prog 9 (unitElem (H:=Unit)) m ks.length D∧∀l:List UInt8,Maps.has D (.string l)=decide (l∈ks)
theorem qaE.kept {m:Nat}{ks:List (List UInt8)}{row:Option Nat}(h:qaE W m ks)(hg:W.grownBy W' row)(hne:some m≠row):qaE W' m ks:=by
 obtain⟨D,h1,h2⟩:=h;exact⟨D,h1.kept hg hne,h2⟩
theorem qic (l:List UInt8)(hb:l.length≤1000000000):keyOf prog 9 (.string ⟨l.toArray⟩)=some (.string l):=by
 have hs:(⟨l.toArray⟩:ByteArray).size≤maxLen:=by
  show l.toArray.size≤maxLen;rw[List.size_toArray];unfold maxLen;omega
 simp[keyOf,mapKey,underlying9,hs]
theorem qht (W:World)(m:Nat)(ks:List (List UInt8))(l:List UInt8)(h:qaE W m ks)(hl:l∈ks)(hb:l.length≤1000000000):Calls prog 318 #[.map (some m),.string ⟨l.toArray⟩] W fun e W'=>e=.returned (.bool false)∧Below W.heap.size W W':=by
 obtain⟨D,h1,h2⟩:=h;have hz:(zeroValue 246).run prog W=.ok (.agg #[]) W:=by kernel_rfl
 obtain⟨v,ps,hrun,hv⟩:=h1.look_ok (Maps.string_keyed underlying9) underlying414 hz unitElem_mk (qic l hb);obtain⟨rfl,_⟩:=unitElem_inv hv;rw[h2 l,decide_eq_true hl] at hrun;go_enter func318,ntmps318;go_wp2;go_ret;exact⟨rfl,bwA⟩
theorem ql3 (W:World)(m:Nat)(ks:List (List UInt8))(l:List UInt8)(h:qaE W m ks)(hl:¬l∈ks)(hn:ks.length<1000000000)(hb:l.length≤1000000000):Calls prog 318 #[.map (some m),.string ⟨l.toArray⟩] W fun e W'=>e=.returned (.bool true)∧qaE W' m (l::ks)∧But m W W':=by
 obtain⟨D,h1,h2⟩:=h;have hz:(zeroValue 246).run prog W=.ok (.agg #[]) W:=by kernel_rfl
 obtain⟨v,ps,hrun,hv⟩:=h1.look_ok (Maps.string_keyed underlying9) underlying414 hz unitElem_mk (qic l hb);obtain⟨rfl,_⟩:=unitElem_inv hv;rw[h2 l,decide_eq_false hl] at hrun;obtain⟨w',hst,ho,hT⟩:=(h1.alloc (.cells #[] 246)).store (Maps.string_keyed underlying9) underlying414 (by unfold maxLen;omega) (qic l hb) (val:=.agg #[]) (unitElem_mk (H:=Unit));have HF:Hid (qaE w' m (l::ks)∧But m W w'):=by
  refine⟨⟨_,ho,fun q => ?_⟩,?_⟩
  ·by_cases hq:q=l
   ·subst hq;rw[Maps.has_put_same h1.isMap (Maps.string_keyed (P:=prog) underlying9 |>.key (qic q hb))];simp
   rw[Maps.has_put_other (fun e=>hq (by injection e)),h2 q];simp[hq]
  have hg:=hT.grown;exact⟨hg.os,hg.tape,hg.output,Nat.le_trans (by simp) hg.size,fun k hk hne=>(hg.block k (by simp;omega) (by simpa using hne)).trans (Below.heap_alloc _ _ _ hk)⟩
 go_enter func318,ntmps318;go_wp2;go_ret;exact⟨rfl,HF.out.1,HF.out.2⟩
def qnt : String := "internal" ++ (String.singleton (Char.ofNat 47) ++ "strconv.uint64pow10")
def qiG (B:Nat)(w:World):Prop:=Lib.TabBelow prog B w qnt .u64 Lib.pow10Tab
theorem qi0 (bs:List UInt8):Lib.byteCells bs=bs.map qav:=by
 unfold Lib.byteCells qav;rfl
theorem qhQ (W:World)(base:Nat)(v:Value)(bs:List UInt8)(z:Int)(hn1 : -9223372036854775808≤z)(hn2:z≤9223372036854775807)(hl:bs.length≤999999999)(h:Own W base v bs)(ht:qiG base W):Calls prog 159 #[v,.int .i64 z,.int .i64 10] W fun e W'=>∃v',e=.returned v'∧Own W' base v' (bs++Lib.itoa z)∧Below base W W':=by
 obtain⟨ho,hb,hs⟩:=h;refine(Any.strconv_AppendInt_10 Tryz.laysM176 base bs.length z hn1 hn2 v (bs.map qav) W ho hb (by omega) (Eq.mp (congrArg (fun s=>Lib.TabBelow prog base W s .u64 Lib.pow10Tab) (by kernel_rfl)) ht)).mono ?_;rintro e w ⟨v',rfl,hown,hB,_⟩;refine⟨v',rfl,⟨?_,?_,?_⟩,hB⟩
 ·rw[List.length_append,List.map_append,←qi0 (Lib.itoa z)];exact hown
 ·have:=hB.size;omega
 rcases hown.2 with ⟨e,_⟩|⟨g,cap,cur,e,_⟩
 ·exact⟨_,_,_,e⟩
 exact⟨_,_,_,e⟩
def qc2:Array Value:=#[.slice none 0 0,.int .i64 0,.int .i64 0]
def qf5 (a:Option Addr)(n cap:Nat)(x y:Int):Array Value:=#[.slice a n cap,.int .i64 x,.int .i64 y]
theorem qcJ (a:Option Addr)(n cap:Nat)(x y:Int):(qf5 a n cap x y).all (·.oneCell')=true:=by simp[qf5,Value.oneCell']
theorem qf2:qc2.all (·.oneCell')=true:=qcJ none 0 0 0 0
theorem qcI:(prog.info? 220).map (·.size)=some 3:=by kernel_rfl
def qiX (n:Nat):List (List UInt8)→Bool
 |[a,b,c]=>qe8 a&&(qh5 b n&&qeu ⟨c.toArray⟩ != 0)
 |_=>false
def qa9 (n:Nat)(l:List UInt8):Bool:=qiX n (qal 32 l)
theorem qke {n:Nat}{q:List (List UInt8)}(h:q.length≠3):qiX n q=false:=by
 match q,h with
 |[],_=>rfl
 |[_],_=>rfl
 |[_,_],_=>rfl
 |_::_::_::_::_,_=>rfl
structure qsd (w:World)(arr:Array Value)(W:World):Prop where
 below:Below w.heap.size w W
 box:W.heap[w.heap.size]? = some (.cells arr 45)
 res:W.heap[w.heap.size+1]? = some (.cells qc2 220)
 lo:w.heap.size+1<W.heap.size
theorem qsd.step {arr:Array Value}(h:qsd w arr W)(hb:Below W.heap.size W W'):qsd w arr W':=by
 have:=h.lo;exact⟨h.below.trans (hb.mono h.below.size),(hb.block _ (by omega)).trans h.box,(hb.block _ (by omega)).trans h.res,Nat.lt_of_lt_of_le this hb.size⟩
theorem qrZ (w w2:World)(arr:Array Value)(hb:Below (w.heap.size+1+1) ((w.alloc (.cells arr 45)).alloc (.cells qc2 220)) w2):qsd w arr w2:=by
 have hz:=hb.size;simp only[World.size_alloc] at hz;refine⟨((bwA).alloc (by simp) _).trans (hb.mono (by omega)),?_,?_,by omega⟩
 ·rw[hb.block _ (by omega),Below.heap_alloc _ _ _ (by simp)];exact qac _ _
 rw[hb.block _ (by omega)];have:=qac (w.alloc (.cells arr 45)) (.cells qc2 220);rwa [World.size_alloc] at this
theorem qx8 {ps:List ByteArray}(h:ps.length=3):∃p0 p1 p2,ps=[p0,p1,p2]:=by
 match ps,h with
 |[a,b,c],_=>exact⟨a,b,c,rfl⟩
theorem qwF (p:ByteArray):(⟨p.data.toList.toArray⟩:ByteArray)=p:=by cases p;rfl
theorem qrj {n:Nat}{l:List UInt8}{ps:List ByteArray}(HE:ps.map (·.data.toList)=qal 32 l):(ps.length≠3∧qa9 n l=false)∨∃p0 p1 p2,ps=[p0,p1,p2]∧((p1.size≠1∧qa9 n l=false)∨∃h:p1.size=1,
   ((p1[0].toNat:Int)<48∧qa9 n l=false)∨((57:Int)<p1[0].toNat∧qa9 n l=false) ∨
   ((48:Int)≤p1[0].toNat∧(p1[0].toNat:Int)≤57∧qa9 n l=(qe8 p0.data.toList&&(qeu p2 != 0&&qbC n ((p1[0].toNat:Int)-48))))):=by
 by_cases h3:ps.length=3
 ·right;obtain⟨p0,p1,p2,rfl⟩:=qx8 h3;refine⟨p0,p1,p2,rfl,?_⟩;have e:qa9 n l=(qe8 p0.data.toList&&(qh5 p1.data.toList n&&qeu p2 != 0)):=by
   unfold qa9;rw[←HE];simp only[List.map_cons,List.map_nil,qiX,qwF]
  by_cases h1:p1.size=1
  ·right;refine⟨h1,?_⟩;rw[qmh h1] at e;by_cases ha:(p1[0].toNat:Int)<48
   ·left;refine⟨ha,?_⟩;rw[e];simp only[qh5];rw[decide_eq_false (by omega)];simp
   right;by_cases hb:(57:Int)<p1[0].toNat
   ·left;refine⟨hb,?_⟩;rw[e];simp only[qh5];rw[decide_eq_false (by omega)];simp
   right;refine⟨by omega,by omega,?_⟩;rw[e];simp only[qh5,qbC];rw[decide_eq_true (show 48≤p1[0].toNat∧p1[0].toNat≤57 by omega),Bool.true_and,Bool.and_comm (qeu p2 != 0)];congr 2;rw[decide_eq_decide];omega
  left;refine⟨h1,?_⟩;rw[e,(qpN (n:=n) (by rw[Array.length_toList];exact h1)).2];simp
 left;refine⟨h3,?_⟩;unfold qa9;exact qke (by rw[←HE,List.length_map];exact h3)
theorem qpi {n g:Nat}{s:ByteArray}{ps:List ByteArray}{w2:World}(hs:s.size≤100000)(HE:ps.map (·.data.toList)=qal 32 s.data.toList)(hcs:∀j (hj:j<ps.length),w2.cell? ⟨g,j,none⟩=some (.string ps[j])):(¬(ps.length:Int)=3∧Hid (qa9 n s.data.toList=false)) ∨
  (∃p0 p1 p2,ps=[p0,p1,p2]∧w2.cell? ⟨g,1,none⟩=some (.string p1)∧¬(p1.size:Int)=1∧Hid (qa9 n s.data.toList=false)) ∨
  (∃p0 p1 p2,ps=[p0,p1,p2]∧w2.cell? ⟨g,1,none⟩=some (.string p1)∧∃h:p1.size=1,(p1.size:Int)=1∧(p1[0].toNat:Int)<48∧Hid (qa9 n s.data.toList=false)) ∨
  (∃p0 p1 p2,ps=[p0,p1,p2]∧w2.cell? ⟨g,1,none⟩=some (.string p1)∧∃h:p1.size=1,(p1.size:Int)=1∧(48:Int)≤p1[0].toNat∧(57:Int)<p1[0].toNat∧Hid (qa9 n s.data.toList=false)) ∨
  (∃p0 p1 p2,ps=[p0,p1,p2]∧w2.cell? ⟨g,0,none⟩=some (.string p0)∧w2.cell? ⟨g,1,none⟩=some (.string p1)∧w2.cell? ⟨g,2,none⟩=some (.string p2)∧∃h:p1.size=1,(p1.size:Int)=1∧(48:Int)≤p1[0].toNat∧(p1[0].toNat:Int)≤57∧Hid (p0.size≤100000) ∧
   Hid (qa9 n s.data.toList=(qe8 p0.data.toList&&(qeu p2 != 0&&qbC n ((p1[0].toNat:Int)-48))))):=by
 rcases qrj (n:=n) HE with ⟨h3,HF⟩|⟨p0,p1,p2,rfl,⟨h1,HF⟩|⟨h1,⟨h48,HF⟩|⟨h57,HF⟩|⟨h48,h57,HF⟩⟩⟩
 ·exact Or.inl ⟨by omega,HF⟩
 ·exact Or.inr (Or.inl ⟨p0,p1,p2,rfl,hcs 1 (by simp),by omega,HF⟩)
 ·exact Or.inr (Or.inr (Or.inl ⟨p0,p1,p2,rfl,hcs 1 (by simp),h1,by omega,h48,HF⟩))
 ·exact Or.inr (Or.inr (Or.inr (Or.inl ⟨p0,p1,p2,rfl,hcs 1 (by simp),h1,by omega,by omega,h57,HF⟩)))
 refine Or.inr (Or.inr (Or.inr (Or.inr ⟨p0,p1,p2,rfl,hcs 0 (by simp),hcs 1 (by simp),hcs 2 (by simp),h1,by omega,h48,h57,?_,HF⟩)));show _≤_;have:=qbr 32 s.data.toList p0.data.toList (by rw[←HE];simp);have h3:s.data.toList.length=s.size:=Array.length_toList;have h4:p0.data.toList.length=p0.size:=Array.length_toList;omega
theorem qqF (arr:Array Value)(n:Nat)(f0:arr[0]? = some (.int .i64 n))(hsz:arr.size=11)(s:ByteArray)(w:World)(hs:s.size≤100000):Calls prog 130 #[.agg arr,.string s] w fun e w' =>
   ∃a m cap x y,e=.returned (.tuple #[.agg (qf5 a m cap x y),.bool (qa9 n s.data.toList)])∧Below w.heap.size w w':=by
 have HS:=qaa hsz;have HF0:=qaa f0;have HIR:Hid ((prog.info? 220).map (·.size)=some qc2.size):=qcI;go_enter func130,ntmps130;have T1:True:=trivial;have T2:True:=trivial
 go_wp2_with (first
  |(go_at_call 129;go_loud (refine(qgv s 32 32 rfl _ hs).mono ?_;rintro e w2 ⟨v,ps,rfl,HO,HB,HE⟩;obtain⟨g,cap,rfl,hg,hgs,hcs⟩:=qdQ HO (qlU HE);have HT:=qaa (qrZ w w2 arr (by simp only[World.size_alloc] at HB;exact HB));rcases qpi (n:=n) hs HE hcs with ⟨h3',HF⟩|⟨p0,p1,p2,rfl,hc1,h1',HF⟩|⟨p0,p1,p2,rfl,hc1,h1,h1',h48,HF⟩|⟨p0,p1,p2,rfl,hc1,h1,h1',h48,h57,HF⟩|⟨p0,p1,p2,rfl,hc0,hc1,hc2,h1,h1',h48,h57,HP0,HF⟩;all_goals clear HE hcs))
  |(refine wpList_store_row rfl 220 _ _ rfl (w.heap.size+1) qc2 rfl rfl 220 qc2 HT.out.res HIR.out rfl qf2 ?_))
 all_goals first
  |(refine bodyPost_ret (qap results130 _ _ (w.heap.size+1) 220 qc2 (0,0) _ rfl (setRow_heap _ _ qc2 _ _ _ HT.out.res) underlying220 rfl qcI (.bool false) rfl) rfl ⟨none,0,0,0,0,by rw[HF.out];rfl,qah HT.out.below (by omega) _⟩)
  |skip
 refine(qkR p0 _ HP0.out).mono ?_;rintro e w3 ⟨pa,pm,pc,rfl,hB3⟩;have HT3:=qaa (HT.out.step hB3);have hd1:=(hB3.cell (p:=⟨g,1,none⟩) hgs).trans hc1;have hd2:=(hB3.cell (p:=⟨g,2,none⟩) hgs).trans hc2;cases e1:qe8 p0.data.toList
 ·have HFF:Hid (qa9 n s.data.toList=false):=by show _=_;rw[HF.out,e1];rfl
  go_wp2_with (first
   |(go_at_call 179;refine(qe7 p2 _).mono ?_;rintro e w4 ⟨rfl,rfl⟩)
   |(refine wpList_store_row rfl 220 _ _ rfl (w.heap.size+1) (qf5 pa pm pc ((p1[0].toNat:Int)-48) (qeu p2)) rfl rfl 220 qc2 HT3.out.res HIR.out rfl (qcJ _ _ _ _ _) ?_))
  refine bodyPost_ret (qap results130 _ _ (w.heap.size+1) 220 (qf5 pa pm pc ((p1[0].toNat:Int)-48) (qeu p2)) (0,0) _ rfl (setRow_heap _ _ qc2 _ _ _ HT3.out.res) underlying220 rfl qcI (.bool false) rfl) rfl ⟨_,_,_,_,_,by rw[HFF.out],qah HT3.out.below (by omega) _⟩
 by_cases e2:qeu p2=0
 ·have HFF:Hid (qa9 n s.data.toList=false):=by show _=_;rw[HF.out,e1,e2];rfl
  go_wp2_with (first
   |(go_at_call 179;refine(qe7 p2 _).mono ?_;rintro e w4 ⟨rfl,rfl⟩)
   |(refine wpList_store_row rfl 220 _ _ rfl (w.heap.size+1) (qf5 pa pm pc ((p1[0].toNat:Int)-48) 0) rfl rfl 220 qc2 HT3.out.res HIR.out rfl (qcJ _ _ _ _ _) ?_))
  refine bodyPost_ret (qap results130 _ _ (w.heap.size+1) 220 (qf5 pa pm pc ((p1[0].toNat:Int)-48) 0) (0,0) _ rfl (setRow_heap _ _ qc2 _ _ _ HT3.out.res) underlying220 rfl qcI (.bool false) rfl) rfl ⟨_,_,_,_,_,by rw[HFF.out],qah HT3.out.below (by omega) _⟩
 have e2':(qeu p2 != 0)=true:=by simp[e2]
 have HFF:Hid (qa9 n s.data.toList=qbC n ((p1[0].toNat:Int)-48)):=by show _=_;rw[HF.out,e1,e2'];rfl
 go_wp2_with (first
  |(go_at_call 179;refine(qe7 p2 _).mono ?_;rintro e w4 ⟨rfl,rfl⟩)
  |(go_at_call 76;refine(qc4 arr n HF0.out _ _).mono ?_;rintro e w5 ⟨rfl,hB5⟩;have HT5:=qaa (HT3.out.step hB5))
  |(refine qaf 45 _ rfl ?hw _ rfl _ _ _ _ HT3.out.box underlying45 rfl (qaV HS.out) ?_;case hw=>simp[go_sem];done)
  |(refine wpList_store_row rfl 220 _ _ rfl (w.heap.size+1) (qf5 pa pm pc ((p1[0].toNat:Int)-48) (qeu p2)) rfl rfl 220 qc2 HT5.out.res HIR.out rfl (qcJ _ _ _ _ _) ?_))
 refine bodyPost_ret (qap results130 _ _ (w.heap.size+1) 220 (qf5 pa pm pc ((p1[0].toNat:Int)-48) (qeu p2)) (0,0) _ rfl (setRow_heap _ _ qc2 _ _ _ HT5.out.res) underlying220 rfl qcI (.bool (qbC n ((p1[0].toNat:Int)-48))) rfl) rfl ⟨_,_,_,_,_,by rw[HFF.out],qah HT5.out.below (by omega) _⟩
end
section
open Go.RowKit Go.Shelf
section
attribute [local go_sem] Oper.semAt_some
structure Tr (N k:Nat)(W W':World):Prop where
 below:Below N W W'
 keep:KeepsOthers W W'
 mid:qc0 k (k+3) W W'
theorem Tr.refl (N k:Nat)(W:World):Tr N k W W:=⟨Below.refl _ _,KeepsOthers.refl _,qc0.refl _ _ _⟩
theorem Tr.trans {k:Nat}{A B C:World}(h:Tr N k A B)(g:Tr N k B C):Tr N k A C:=⟨h.below.trans g.below,h.keep.trans g.keep,h.mid.trans g.mid⟩
theorem Tr.alloc (N k:Nat)(W:World)(o:Obj)(hN:N≤W.heap.size)(hk:k+3≤W.heap.size):Tr N k W (W.alloc o) :=
 ⟨(Below.refl _ _).alloc hN _,KeepsOthers.alloc _ _,⟨by simp,fun i _ h=>Below.heap_alloc _ _ _ (by omega)⟩⟩
theorem Tr.set (N k:Nat)(W:World)(p:Nat)(v:Value)(hN:N≤p)(hk:p<k∨k+3≤p):Tr N k W (W.setCell ⟨p,0,none⟩ v) :=
 ⟨(Below.refl _ _).trans ⟨rfl,rfl,rfl,by simp[World.setCell],fun i hi=>heap_setCell_other W _ _ _ (by simp;omega)⟩,KeepsOthers.setCell _ _ _,⟨by simp[World.setCell],fun i h1 h2=>heap_setCell_other W _ _ _ (by simp;omega)⟩⟩
theorem Tr.below' {k:Nat}(h:Below W.heap.size W W')(hN:N≤W.heap.size)(hk:k+3≤W.heap.size):Tr N k W W' :=
 ⟨h.mono hN,⟨h.size,fun i o ho _=>(h.block i (ltA ho)).trans ho⟩,⟨h.size,fun i _ h2=>h.block i (by omega)⟩⟩
theorem Tr.grown {k:Nat}{e:TypeId}{size:Nat}{v:Value}{n:Nat}{xs:List Value}(ho:W.ownsRow base e size v n xs)(hg:W.grownBy W' v.ownBlock)(hb:base≤W.heap.size)(hN:N≤base)(hk:k+3≤base):Tr N k W W':=by
 have key:∀g,v.ownBlock=some g→base≤g:=fun g h=>by
  rcases ho.2 with ⟨h0,_⟩|⟨g',cap,cur,rfl,hb',_⟩
  ·subst h0;cases h
  cases h;exact hb'
 refine⟨⟨hg.os,hg.tape,hg.output,hg.size,fun i hi=>hg.block i (by omega) (fun h=>by have:=key i h.symm;omega)⟩,KeepsOthers.of_grownBy hg (fun j o hj hjo => ?_),⟨hg.size,fun i _ h2=>hg.block i (by omega) (fun h=>by have:=key i h.symm;omega)⟩⟩;rcases ho.2 with ⟨h0,_⟩|⟨g',cap,cur,rfl,hb',hh,_⟩
 ·subst h0;cases hj
 cases hj;rw[hh] at hjo;cases hjo;rfl
structure qvy (w:World)(pre:List Str)(c:Code)(W:World):Prop where
 ret:c=.ret
 below:Below w.heap.size w W
 r0:Boxed W w.heap.size 228 (.slice none 0 0)
 r1:Boxed W (w.heap.size+1) 4 (.bool false)
 bad:8<pre.length∨pre.all (fun x=>qg3 (lst x))=false
 size:w.heap.size+6≤W.heap.size
theorem qvy.own {pre:List Str}{c:Code}{row:Nat}(h:qvy w pre c W)(hg:W.grownBy W' (some row))(h1:w.heap.size+2≤row):qvy w pre c W' :=
 ⟨h.ret,h.below.trans ⟨hg.os,hg.tape,hg.output,hg.size,fun i hi=>hg.block i (by have:=h.size;omega) (by intro e;cases e;omega)⟩,h.r0.kept hg (by intro e;cases e;omega),h.r1.kept hg (by intro e;cases e;omega),h.bad,Nat.le_trans h.size hg.size⟩
theorem qsj (w W:World):Tr w.heap.size (w.heap.size+3) W ((W.setCell ⟨w.heap.size,0,none⟩ (.slice none 0 0)).setCell ⟨w.heap.size+1,0,none⟩ (.bool false)) :=
 (Tr.set _ _ W w.heap.size _ (Nat.le_refl _) (by omega)).trans (Tr.set _ _ _ (w.heap.size+1) _ (by omega) (by omega))
def sgL:Nat→List UInt8
 |0=>[42]
 |1=>[42,42]
 |_=>[91,93]
theorem Tryz.infoSeg:(prog.info? 235).map (fun i=>(i.zero,i.size,i.bytes))=some (some (.agg #[.int .i64 0,.string ByteArray.empty]),2,24):=by kernel_rfl
theorem qqU (w:World)(s:ByteArray)(W0:World)(hW0:((((((w.alloc (.cells #[.slice none 0 0] 228)).alloc (.cells #[.bool false] 4)).alloc (.cells #[.slice none 0 0] 228)).alloc (.cells #[.string s] 9)).alloc (.cells #[.string ⟨#[47]⟩] 9)).alloc (.cells #[.int .i64 0] 3))=W0):qfY (w.heap.size+3) 47 W0 s:=by
 subst hW0;generalize hA:((w.alloc (.cells #[.slice none 0 0] 228)).alloc (.cells #[.bool false] 4)).alloc (.cells #[.slice none 0 0] 228)=A;have hs:w.heap.size+3=A.heap.size:=by rw[←hA];simp
 rw[hs];refine⟨?_,?_,?_⟩
 ·exact((Below.heap_alloc _ _ _ (by simp;omega)).trans (Below.heap_alloc _ _ _ (by simp))).trans (qac A _)
 ·refine(Below.heap_alloc _ _ _ (by simp)).trans ?_;have:=qac (A.alloc (.cells #[.string s] 9)) (.cells #[.string ⟨#[47]⟩] 9);rwa [World.size_alloc] at this
 have:=qac ((A.alloc (.cells #[.string s] 9)).alloc (.cells #[.string ⟨#[47]⟩] 9)) (.cells #[.int .i64 0] 3);rwa [World.size_alloc,World.size_alloc] at this
theorem qbp {e:TypeId}{size:Nat}{v:Value}{n:Nat}{xs:List Value}(ho:W.ownsRow base e size v n xs){g:Nat}(h:v.ownBlock=some g):base≤g:=by
 rcases ho.2 with ⟨h0,_⟩|⟨g',cap,cur,rfl,hb',_⟩
 ·subst h0;cases h
 cases h;exact hb'
theorem qih {x:Str}{i:Nat}(h:(x.1.toList==sgL i)=true):qg3 (lst x)=true:=by
 have e:lst x=sgL i:=by unfold lst;rw[←Lib.toList_data];exact eq_of_beq h
 rw[e];unfold qg3
 match i with
 |0=>simp[sgL]
 |1=>simp[sgL]
 |_+2=>simp[sgL]
theorem qtx {x:Str}(h:∀i,i<3→(x.1.toList==sgL i)=false):qg3 (lst x)=qgw x.1.data.toList:=by
 have e:lst x=x.1.toList:=by unfold lst;rw[←Lib.toList_data]
 have h0:=h 0 (by omega);have h1:=h 1 (by omega);have h2:=h 2 (by omega);simp only[sgL] at h0 h1 h2;unfold qg3;rw[e,h0,h1,h2,Lib.toList_data];simp
theorem qbP (w:World)(o:Obj)(cs:Array Value)(t:TypeId):∀(j:Nat) (u:Value),cs.toList[j]? = some u→((w.alloc o).alloc (.cells cs t)).cell? ((⟨w.heap.size+1,0,none⟩:Addr).add j)=some u:=fun j u hu=>by
 have:=cell_of_row ((w.alloc o).alloc (.cells cs t)) (w.heap.size+1) j cs t (0,0) (by have:=qac (w.alloc o) (.cells cs t);rwa [World.size_alloc] at this);rw[qcn,Nat.zero_add,this];simpa using hu
theorem qhU (w:World)(cs:Array Value)(t:TypeId):∀(j:Nat) (u:Value),cs.toList[j]? = some u→(w.alloc (.cells cs t)).cell? ((⟨w.heap.size,0,none⟩:Addr).add j)=some u:=fun j u hu=>by
 rw[qcn,Nat.zero_add,cell_of_row _ _ _ _ _ _ (qac _ _)];simpa using hu
theorem qtY {s:ByteArray}{hs:s.size≤2000}{xs:List Str}(hd:(s.toList==[46])=false)(h:xs.map lst=qal 47 (lst ⟨s,hs⟩))(h8:xs.length≤8)(ha:xs.all (fun x=>qg3 (lst x))=true):qe8 s.data.toList=true:=by
 have h':qal 47 s.data.toList=xs.map lst:=h.symm;unfold qe8;rw[h',←Lib.toList_data,hd,List.length_map,decide_eq_true h8,List.all_map];simpa [Function.comp] using ha
theorem qwp {s:ByteArray}{hs:s.size≤2000}{pre:List Str}{r:List (List UInt8)}(hd:(s.toList==[46])=false)(h:qal 47 (lst ⟨s,hs⟩)=pre.map lst++r)(hb:8<pre.length∨pre.all (fun x=>qg3 (lst x))=false):qe8 s.data.toList=false:=by
 have h':qal 47 s.data.toList=pre.map lst++r:=h;unfold qe8;rw[h',←Lib.toList_data,hd,List.all_append,List.all_map];rcases hb with hb|hb
 ·rw[decide_eq_false (by rw[List.length_append,List.length_map];omega)];simp
 have:(pre.all (qg3∘lst))=false:=hb;rw[this];simp
theorem qsP (V:World):(Instr.index 337 (.agg #[.string ⟨#[42]⟩,.int .i64 0,.string ⟨#[42,42]⟩,.int .i64 1,.string ⟨#[91,93]⟩,.int .i64 2]) (.int .i64 0)).run prog V=.ok (.agg #[.string ⟨#[42]⟩,.int .i64 0]) V:=by kernel_rfl
theorem qud (V:World):(Instr.index 337 (.agg #[.string ⟨#[42]⟩,.int .i64 0,.string ⟨#[42,42]⟩,.int .i64 1,.string ⟨#[91,93]⟩,.int .i64 2]) (.int .i64 1)).run prog V=.ok (.agg #[.string ⟨#[42,42]⟩,.int .i64 1]) V:=by kernel_rfl
theorem qt3 (V:World):(Instr.index 337 (.agg #[.string ⟨#[42]⟩,.int .i64 0,.string ⟨#[42,42]⟩,.int .i64 1,.string ⟨#[91,93]⟩,.int .i64 2]) (.int .i64 2)).run prog V=.ok (.agg #[.string ⟨#[91,93]⟩,.int .i64 2]) V:=by kernel_rfl
theorem qns {F:Fence}{n:Nat}{P:Program}{md:Region.Mode}{ops:Array Oper}{Q:Exit→Act→World→Prop}{fuel:Nat}{listed:Array Bool}{a:Act}(L:Array Bool)(fu:Nat)(vs:World→List (Nat×Value))(T:World→Prop)(wd:World→World)(hr:(∀V,T V→wpAnyIn F n P md ops Q fu L ((vs V).foldl (fun a p=>a.put (some p.1) p.2) a) (wd V))→wpAnyIn F n P md ops Q fuel listed a w)(ht:∀V,T V→wpAnyIn F n P md ops Q fu L ((vs V).foldl (fun a p=>a.put (some p.1) p.2) a) (wd V)):wpAnyIn F n P md ops Q fuel listed a w:=hr ht
theorem qgp {F:Fence}{nF:Nat}{P:Program}{o:Oper}{a:Act}{K:Act→World→Prop}{Q:Exit→Act→World→Prop}(s x:Operand)(t:TypeId)(ho:o.op=.call {callee:=.builtin .append,args:=#[s,x],argTypes:=#[t,t]})(base:Nat)(e:TypeId)(i:TypeInfo)(z:Value)(size bytes:Nat)(ht:P.underlying t=some (.slice e))(hi:P.info? e=some i)(hz:i.zero=some z)(hsize:i.size=size)(hby:i.bytes=bytes)(hzs:z.cells.size=size)(hsz:0<size)(v:Value)(n:Nat)(xs:List Value)(hs:a.eval s=v)(hown:w.ownsRow base e size v n xs)(ad:Addr)(m c:Nat)(news:List Value)(hx:a.eval x=.slice (some ad) m c)(hl:news.length=m*size)(hnews:∀j u,news[j]? = some u→w.cell? (ad.add j)=some u)(h1:∀u∈news,u.oneCell'=true)(h63:n+m≤maxLen)(hbytes:(n+m)*bytes≤140737488355328)(hbase:base≤w.heap.size)(h:∀v' w',w'.ownsRow base e size v' (n+m) (xs++news)→w.grownBy w' v.ownBlock→K (a.put o.dst v') w'):o.wpIn F nF P a w K Q:=by
 obtain⟨v',w',hr,h2,h3,_⟩:=run_append_own (P:=P) w base t o.type e i z size bytes ht hi hz hsize hby hzs hsz v n xs hown ad m c news hl hnews h1 h63 hbytes hbase;unfold Oper.wpIn;refine⟨by simp[Oper.about,ho,resolve,Target.leads,Sem.run_pure],?_⟩;rw[Oper.semAt_plain F _ _ (by rw[ho];intro c hc';cases hc')];simp[execOp,ho,resolve,invoke,builtin,hs,hx,hr,Result.andThen];exact h v' w' h2 h3
end
end
section
open Go.RowKit
theorem qge (c:UInt8):∀l:List UInt8,(Lib.index l [c] = -1∧qal c l=[l])∨∃a r,l=a++c::r∧Lib.index l [c]=a.length∧qal c l=a::qal c r
 |[]=>Or.inl ⟨rfl,rfl⟩
 |x::r=>by
  by_cases hx:x=c
  ·subst hx;right;exact⟨[],r,rfl,by simp[Lib.index],by simp[qal]⟩
  have hp:([c].isPrefixOf (x::r))=false:=by simp[List.isPrefixOf,Ne.symm hx]
  have hb:(x==c)=false:=by simp[hx]
  rcases qge c r with ⟨h1,h2⟩|⟨a,q,h1,h2,h3⟩
  ·left;refine⟨?_,?_⟩
   ·unfold Lib.index;rw[hp,h1];rfl
   unfold qal;rw[hb,h2];rfl
  right;refine⟨x::a,q,by rw[h1];rfl,?_,?_⟩
  ·unfold Lib.index;rw[hp,h2];have:((a.length:Int) == -1)=false:=by rw[beq_eq_false_iff_ne];omega
   rw[this];simp
  rw[qal,hb,h3];rfl
theorem qby (c:UInt8)(l:List UInt8):(Lib.cut l [c]=(l,[],false)∧qal c l=[l])∨∃a r,Lib.cut l [c]=(a,r,true)∧l=a++c::r∧qal c l=a::qal c r:=by
 rcases qge c l with ⟨h1,h2⟩|⟨a,r,h1,h2,h3⟩
 ·left;refine⟨?_,h2⟩;unfold Lib.cut;rw[h1,if_neg (by omega)]
 right;refine⟨a,r,?_,h1,h3⟩;unfold Lib.cut;rw[h2,if_pos (by omega)];simp[h1]
def qqG (n:Nat)(l:List UInt8):Bool :=
 qe8 (Lib.cut l [32]).1&&(qh5 (Lib.cut (Lib.cut l [32]).2.1 [32]).1 n&&qeu ⟨(Lib.cut (Lib.cut l [32]).2.1 [32]).2.1.toArray⟩ != 0)
theorem qif (l:List UInt8):qeu ⟨l.toArray⟩=if l==[100,114,111,112] then 1 else if l==[109,97,115,107] then 2 else if l==[116,97,103] then 3 else 0:=by
 unfold qeu;rw[Lib.toList_data]
theorem qkb (a r:List UInt8):qeu ⟨(a++32::r).toArray⟩=0:=by
 have hm:(32:UInt8)∈a++32::r:=by simp
 rw[qif];generalize a++32::r=l at *;rw[if_neg (by intro h;rw[eq_of_beq h] at hm;revert hm;decide),if_neg (by intro h;rw[eq_of_beq h] at hm;revert hm;decide),if_neg (by intro h;rw[eq_of_beq h] at hm;revert hm;decide)]
theorem qn3 (n:Nat)(l:List UInt8):qqG n l=qa9 n l:=by
 unfold qqG qa9;rcases qby 32 l with ⟨h1,h2⟩|⟨a,r,h1,_,h2⟩
 ·rw[h1,h2];rcases qby 32 [] with ⟨h3,h4⟩|⟨a,r,_,h3,_⟩
  ·simp[h3,qh5,qiX]
  simp at h3
 rw[h1,h2];rcases qby 32 r with ⟨h3,h4⟩|⟨b,q,h3,_,h4⟩
 ·rw[h3,h4];have:qeu ⟨([]:List UInt8).toArray⟩=0:=by rw[qif];rfl
  simp[this,qiX]
 rw[h3,h4];rcases qby 32 q with ⟨h5,h6⟩|⟨d,e,h5,h6,h7⟩
 ·rw[h6];rfl
 rw[h7,qke (by have:=List.length_pos_iff.2 (qfD 32 e);simp only[List.length_cons];omega),h6];simp[qkb]
end
section
open Go.RowKit Go.Shelf
theorem qkG {B:Nat}{a:World}(h:Below B a w)(n:Nat):Below B a (w.drewN n):=h.trans ⟨rfl,rfl,rfl,Nat.le_refl _,fun _ _=>rfl⟩
theorem qdX:(prog.info? 230).map (·.size)=some 3:=by kernel_rfl
theorem qnX (s:ByteArray)(hs:s.size≤2000):∃(p r:ByteArray) (b:Bool),p.data.toList=(Lib.cut s.data.toList [32]).1∧r.data.toList=(Lib.cut s.data.toList [32]).2.1∧p.size≤2000∧r.size≤2000 ∧
  ∀w,qlZ w→Calls prog 184 #[.string s,.string ⟨#[32]⟩] w fun e w'=>e=.returned (.tuple #[.string p,.string r,.bool b])∧Below w.heap.size w w':=by
 have hl:s.data.toList.length=s.size:=Array.length_toList;have hz:(Lib.cut s.data.toList [32]).1.length≤2000∧(Lib.cut s.data.toList [32]).2.1.length≤2000:=by
  rcases qby 32 s.data.toList with ⟨h,_⟩|⟨a,r,h,he,_⟩
  ·rw[h];simp;omega
  have:=congrArg List.length he;rw[List.length_append,List.length_cons] at this;rw[h];simp;omega
 refine⟨⟨(Lib.cut s.data.toList [32]).1.toArray⟩,⟨(Lib.cut s.data.toList [32]).2.1.toArray⟩,(Lib.cut s.data.toList [32]).2.2,by simp,by simp,hz.1,hz.2,fun w hg => ?_⟩;obtain⟨m,hm⟩:=hg.mlen;refine(Tryz.strings_Cut s ⟨#[32]⟩ m w (by omega) hm).mono ?_;rintro e w' ⟨rfl,n,rfl⟩;exact⟨rfl,qkG bwR n⟩
structure qwI (w:World)(W:World):Prop where
 below:Below w.heap.size w W
 res:W.heap[w.heap.size]? = some (.cells qc2 230)
theorem qwI.step (h:qwI w W)(hb:Below W.heap.size W W'):qwI w W' :=
 ⟨h.below.trans (hb.mono h.below.size),(hb.block _ (ltA h.res)).trans h.res⟩
theorem qtf (w:World):qwI w (w.alloc (.cells qc2 230)):=⟨bwA,qac _ _⟩
end
end Go.Proofs.YtllcbnfmihfaaaaGreatDoor
