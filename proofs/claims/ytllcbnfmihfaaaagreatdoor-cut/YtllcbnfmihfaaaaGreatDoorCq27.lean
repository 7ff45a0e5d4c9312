import Derived.Test.YtllcbnfmihfaaaaGreatDoorCards
import Derived.Test.YtllcbnfmihfaaaaGreatDoorTie
import Derived.Carry
import Derived.Deep.DeepHandedRow
import Derived.Lib.LaidTab
import Derived.Recover
import Derived.Test.YtllcbnfmihfaaaaGreatDoorCq24
import Derived.Test.YtllcbnfmihfaaaaGreatDoorCq25
import Derived.Test.YtllcbnfmihfaaaaGreatDoorCq26
set_option maxRecDepth 100000
set_option maxHeartbeats 8000000
namespace Go.Proofs.YtllcbnfmihfaaaaGreatDoor
open Go.Proofs.Tryz
variable {V V' W:World}{A L N base i tb:Nat}{sv v v':Value}{cur l:List UInt8}{s:ByteArray}{o:Oper}{tk:Nat→Nat→Nat}{q:Aut}{st:Nat→Nat}
section
open Go.ChangeShapes Go.WideShapes Go.ChangeAt Go.RowKit Go.Lib
theorem Tryz.own:ownKnob prog.godebug=none:=by kernel_rfl
theorem Tryz.laidOut:laidOutB prog=true:=by kernel_rfl
def qhX:Nat→DataW Unit→List Value
 |0,_=>[]
 |_+1,.lit (.int k z)=>[.int k z]
 |_+1,.lit (.string b)=>[.string ⟨b.toArray⟩]
 |n+1,.agg ds=>ds.flatMap (qhX n)
 |_+1,_=>[]
def qdl (h:Array Obj)(g:Nat)(cs:Array Value):Array Obj:=h.modify g fun
 |.cells _ t frozen=>.cells cs t frozen
 |o=>o
def quD (w0:World):World :=
 let h0:=qdl w0.heap 7 (qhX 5 Rows.laid_math_bits_deBruijn32tab).toArray
 let h1:=qdl h0 8 (qhX 5 Rows.laid_math_bits_deBruijn64tab).toArray
 let h2:=qdl h1 6 (qhX 5 Rows.laid_internal_strconv_uint64pow10).toArray
 let h3:=qdl h2 5 (qhX 5 Rows.laid_unicode_utf8_acceptRanges).toArray
 let h4:=qdl h3 0 (qhX 5 Rows.laid_redact_reading_cborSorts).toArray
 let h5:=qdl h4 1 (qhX 5 Rows.laid_redact_reading_packHeads).toArray
 let h6:=qdl h5 2 (qhX 5 Rows.laid_redact_policy_signs).toArray
 let h7:=qdl h6 4 (qhX 5 Rows.laid_unicode_utf8_first).toArray
 {w0 with heap:=h7}
end
section
open Go.RowKit Go.Lib
theorem qej (k:Nat)(W:World)(F:Nat→Prop)(x:Value)(d:DataW Unit)(hF:∀j,F j→j<W.heap.size)(h:qai k W F x d)(hl:(qaU k d).length≤999999999):Calls prog 67 #[.int .i64 2,x] W fun e W'=>∃v',e=.returned v'∧Own W' W.heap.size v' (qaU k d)∧Below W.heap.size W W':=by
 have cA:=qmc k W W.heap.size F x d hF h W _ [] bwR (qip W) (by simpa using hl);obtain⟨t,y,rfl⟩:=h.iface;go_enter func67,ntmps67
 go_wp2_with (first
  |(go_at_call 110;refine cA.mono ?_;rintro e w6 ⟨v6,rfl,h6,hB6⟩;obtain⟨h61,h62,a6,n6,c6,rfl⟩:=h6))
 go_ret;exact⟨_,rfl,⟨h61,h62,_,_,_,rfl⟩,hB6⟩
theorem qhC (k:Nat)(W:World)(F:Nat→Prop)(x:Value)(d:DataW Unit)(hF:∀j,F j→j<W.heap.size)(h:qai k W F x d)(hl:(qcV k d).length≤999999999):Calls prog 67 #[.int .i64 3,x] W fun e W'=>∃v',e=.returned v'∧Own W' W.heap.size v' (qcV k d)∧Below W.heap.size W W':=by
 have cA:=qlW k W W.heap.size F x d hF h W _ [] bwR (qip W) (by simpa using hl);obtain⟨t,y,rfl⟩:=h.iface;go_enter func67,ntmps67
 go_wp2_with (first
  |(go_at_call 111;refine cA.mono ?_;rintro e w6 ⟨v6,rfl,h6,hB6⟩;obtain⟨h61,h62,a6,n6,c6,rfl⟩:=h6))
 go_ret;exact⟨_,rfl,⟨h61,h62,_,_,_,rfl⟩,hB6⟩
theorem qex (W:World)(base:Nat)(v:Value)(bs:List UInt8)(hl:bs.length≤999999999)(h:Own W base v bs):Calls prog 199 #[v,.bool true] W fun e W'=>∃v',e=.returned v'∧Own W' base v' (bs++[116,114,117,101])∧Below base W W':=by
 obtain⟨i0,hi,hz0,hz1,hz2⟩:=info_parts Tryz.infoU8;obtain⟨a,n,c,rfl⟩:=h.2.2;have HO:=qaa h;have hsz:(⟨([116,114,117,101]:List UInt8).toArray⟩:ByteArray).size=4:=rfl;go_enter func199,ntmps199
 go_wp2_with (first
  |(at_builtin;refine wpList_append_own_string _ rfl _ _ 28 9 rfl base 5 i0 underlying28 underlying9 hi hz0 hz1 hz2 _ _ _ rfl HO.out.1 ⟨[116,114,117,101].toArray⟩ rfl (by rw[hsz];unfold maxLen;omega) (by rw[hsz];omega) HO.out.2.1 ?_;intro v' w5 hown' hgrow5 hnil5;have HN:=qaa (qaL HO.out hown' hgrow5)))
 go_ret;exact⟨_,rfl,HN.out⟩
theorem qee (W:World)(base:Nat)(v:Value)(bs:List UInt8)(hl:bs.length≤999999999)(h:Own W base v bs):Calls prog 199 #[v,.bool false] W fun e W'=>∃v',e=.returned v'∧Own W' base v' (bs++[102,97,108,115,101])∧Below base W W':=by
 obtain⟨i0,hi,hz0,hz1,hz2⟩:=info_parts Tryz.infoU8;obtain⟨a,n,c,rfl⟩:=h.2.2;have HO:=qaa h;have hsz:(⟨([102,97,108,115,101]:List UInt8).toArray⟩:ByteArray).size=5:=rfl;go_enter func199,ntmps199
 go_wp2_with (first
  |(at_builtin;refine wpList_append_own_string _ rfl _ _ 28 9 rfl base 5 i0 underlying28 underlying9 hi hz0 hz1 hz2 _ _ _ rfl HO.out.1 ⟨[102,97,108,115,101].toArray⟩ rfl (by rw[hsz];unfold maxLen;omega) (by rw[hsz];omega) HO.out.2.1 ?_;intro v' w5 hown' hgrow5 hnil5;have HN:=qaa (qaL HO.out hown' hgrow5)))
 go_ret;exact⟨_,rfl,HN.out⟩
theorem qfI (W:World)(base:Nat)(v:Value)(bs:List UInt8)(hl:bs.length≤999999999)(h:Own W base v bs):Calls prog 158 #[v,.bool true] W fun e W'=>∃v',e=.returned v'∧Own W' base v' (bs++[116,114,117,101])∧Below base W W':=by
 have cA:=qex W base v bs hl h;obtain⟨a,n,c,rfl⟩:=h.2.2;go_enter func158,ntmps158
 go_wp2_with (first
  |(go_at_call 199;refine cA.mono ?_;rintro e w6 ⟨v6,rfl,h6,hB6⟩;obtain⟨h61,h62,a6,n6,c6,rfl⟩:=h6))
 go_ret;exact⟨_,rfl,⟨h61,h62,_,_,_,rfl⟩,hB6⟩
theorem qfj (W:World)(base:Nat)(v:Value)(bs:List UInt8)(hl:bs.length≤999999999)(h:Own W base v bs):Calls prog 158 #[v,.bool false] W fun e W'=>∃v',e=.returned v'∧Own W' base v' (bs++[102,97,108,115,101])∧Below base W W':=by
 have cA:=qee W base v bs hl h;obtain⟨a,n,c,rfl⟩:=h.2.2;go_enter func158,ntmps158
 go_wp2_with (first
  |(go_at_call 199;refine cA.mono ?_;rintro e w6 ⟨v6,rfl,h6,hB6⟩;obtain⟨h61,h62,a6,n6,c6,rfl⟩:=h6))
 go_ret;exact⟨_,rfl,⟨h61,h62,_,_,_,rfl⟩,hB6⟩
theorem qk9 (W:World)(base:Nat)(v:Value)(bs:List UInt8)(hl:bs.length≤999999999)(h:Own W base v bs):Calls prog 109 #[v,.iface 247 (.agg #[])] W fun e W'=>∃v',e=.returned v'∧Own W' base v' (bs++[110,117,108,108])∧Below base W W':=by
 obtain⟨i0,hi,hz0,hz1,hz2⟩:=info_parts Tryz.infoU8;obtain⟨a,n,c,rfl⟩:=h.2.2;have HO:=qaa h;have ta0:=qcx;have ta1:=qcf;have ta2:=qcN;have ta3:=qcO;have ta4:=qdq;have hsz:(⟨([110,117,108,108]:List UInt8).toArray⟩:ByteArray).size=4:=rfl;go_enter func109,ntmps109
 go_wp2_with (first
  |(at_builtin;refine wpList_append_own_string _ rfl _ _ 28 9 rfl base 5 i0 underlying28 underlying9 hi hz0 hz1 hz2 _ _ _ rfl HO.out.1 ⟨[110,117,108,108].toArray⟩ rfl (by rw[hsz];unfold maxLen;omega) (by rw[hsz];omega) HO.out.2.1 ?_;intro v' w5 hown' hgrow5 hnil5;have HN:=qaa (qaL HO.out hown' hgrow5)))
 go_ret;exact⟨_,rfl,HN.out⟩
theorem qgO (W:World)(base:Nat)(v:Value)(bs:List UInt8)(hl:bs.length≤999999999)(h:Own W base v bs):Calls prog 109 #[v,.iface 277 (.bool true)] W fun e W'=>∃v',e=.returned v'∧Own W' base v' (bs++[116,114,117,101])∧Below base W W':=by
 have cA:=qfI W base v bs hl h;obtain⟨a,n,c,rfl⟩:=h.2.2;have ta0:=qbu true;go_enter func109,ntmps109
 go_wp2_with (first
  |(go_at_call 158;refine cA.mono ?_;rintro e w6 ⟨v6,rfl,h6,hB6⟩;obtain⟨h61,h62,a6,n6,c6,rfl⟩:=h6))
 go_ret;exact⟨_,rfl,⟨h61,h62,_,_,_,rfl⟩,hB6⟩
theorem qf9 (W:World)(base:Nat)(v:Value)(bs:List UInt8)(hl:bs.length≤999999999)(h:Own W base v bs):Calls prog 109 #[v,.iface 277 (.bool false)] W fun e W'=>∃v',e=.returned v'∧Own W' base v' (bs++[102,97,108,115,101])∧Below base W W':=by
 have cA:=qfj W base v bs hl h;obtain⟨a,n,c,rfl⟩:=h.2.2;have ta0:=qbu false;go_enter func109,ntmps109
 go_wp2_with (first
  |(go_at_call 158;refine cA.mono ?_;rintro e w6 ⟨v6,rfl,h6,hB6⟩;obtain⟨h61,h62,a6,n6,c6,rfl⟩:=h6))
 go_ret;exact⟨_,rfl,⟨h61,h62,_,_,_,rfl⟩,hB6⟩
def qfU (x:Nat):UInt8:=[48,49,50,51,52,53,54,55,56,57,97,98,99,100,101,102].getD x 0
def qmw (r:Nat):List UInt8:=if r=34∨r=92 then [92,UInt8.ofNat r] else if r<32 then [92,117,48,48,qfU (r / 16),qfU (r%16)] else qcD r
def qd5:Nat→List UInt8→List UInt8
 |0,_=>[]
 |_+1,[]=>[]
 |g+1,b::t=>qmw (decodeL (b::t)).1++qd5 g ((b::t).drop (decodeL (b::t)).2)
def jsT (l:List UInt8):List UInt8:=[34]++qd5 l.length l++[34]
theorem qgt {W':World}{b:Nat}{bs:List UInt8}(h:Own W b v bs)(hB:Below W.heap.size W W'):Own W' b v bs:=by
 refine⟨⟨h.1.1,?_⟩,Nat.le_trans h.2.1 hB.size,h.2.2⟩;rcases h.1.2 with h0|⟨g,cap,cur,h0,h1,hh,h2⟩
 ·exact .inl h0
 exact .inr ⟨g,cap,cur,h0,h1,(hB.block g (ltA hh)).trans hh,h2⟩
theorem qoY (g:Nat):qd5 g []=[]:=by cases g<;>rfl
def KpU (W V:World):Prop:=∀(k:Nat) (cs:Array Value) (t:TypeId) (fr:Nat×Nat),W.heap[k]? = some (.cells cs t fr)→t≠5→V.heap[k]? = some (.cells cs t fr)
theorem KpU.refl (W:World):KpU W W:=by intro k cs t fr h _;exact h
theorem KpU.trans {A B C:World}(h:KpU A B)(g:KpU B C):KpU A C:=by intro k cs t fr h1 h2;exact g k cs t fr (h k cs t fr h1 h2) h2
theorem qed (W:World)(o:Obj):KpU W (W.alloc o):=by intro k cs t fr h1 _;exact(Below.heap_alloc _ _ _ (ltA h1)).trans h1
theorem qek {n:Nat}{xs:List Value}(ho:W.ownsRow base 5 1 v n xs)(hg:W.grownBy V v.ownBlock):KpU W V:=by
 intro k cs t fr h1 h2;refine(hg.block k (ltA h1) (fun e => ?_)).trans h1;rcases ho.2 with ⟨h0,_⟩|⟨g,cap,c,h0,_,hh,_⟩
 ·rw[h0] at e;cases e
 rw[h0] at e;injection e with e;have e':k=g:=e;rw[←e',h1] at hh;injection hh with hh;injection hh with _ hh _;exact h2 hh
structure qgU (base:Nat)(W:World)(N:Nat)(s:ByteArray)(i:Nat)(v:Value)(cur:List UInt8)(V:World):Prop where
 own:Own V base v cur
 it:V.heap[N]? = some (.stringIter s i)
 below:Below base W V
 lo:base≤N
 kp:KpU W V
theorem qgU.ne (h:qgU base W N s i v cur V):some N≠v.ownBlock:=by
 intro e;rcases h.own.1.2 with ⟨h0,_⟩|⟨g,cap,c,h0,_,hh,_⟩
 ·rw[h0] at e;cases e
 rw[h0] at e;injection e with e;have e':N=g:=e;rw[←e',h.it] at hh;cases hh
theorem qgU.app {o:Obj}(h:qgU base W N s i v cur V)(hown:V'.ownsRow base 5 1 v' (cur.length+l.length) (cur.map qav++l.map qav))(hg:(V.alloc o).grownBy V' v.ownBlock):qgU base W N s i v' (cur++l) V':=by
 have hB:=qaz ((Below.refl base V).alloc h.own.2.1 _) (h.own.1.alloc _) hg (by have:=h.own.2.1;simp;omega);have hN:=ltA h.it;refine⟨⟨by rw[List.length_append,List.map_append];exact hown,Nat.le_trans h.own.2.1 hB.size,?_⟩,(hg.block N (by simp;omega) h.ne).trans ((Below.heap_alloc _ _ _ hN).trans h.it),h.below.trans hB,h.lo,h.kp.trans ((qed V o).trans (qek (h.own.1.alloc o) hg))⟩;rcases hown.2 with ⟨e,_⟩|⟨g,cap,c,e,_⟩
 ·exact⟨none,0,0,e⟩
 exact⟨_,_,_,e⟩
theorem qgU.appS (h:qgU base W N s i v cur V)(hown:V'.ownsRow base 5 1 v' (cur.length+(⟨l.toArray⟩:ByteArray).size) (cur.map qav++strCells ⟨l.toArray⟩))(hg:V.grownBy V' v.ownBlock):qgU base W N s i v' (cur++l) V':=by
 obtain⟨h1,h2⟩:=qaL h.own hown hg;exact⟨h1,(hg.block N (ltA h.it) h.ne).trans h.it,h.below.trans h2,h.lo,h.kp.trans (qek h.own.1 hg)⟩
theorem qgU.next (h:qgU base W N s i v cur V)(j:Nat):qgU base W N s j v cur (V.putObj N (.stringIter s j)):=by
 have hN:=ltA h.it;have hne:=h.ne;refine⟨⟨⟨h.own.1.1,?_⟩,by simpa [World.putObj] using h.own.2.1,h.own.2.2⟩,by simp[World.putObj,hN],qbs h.below h.lo _,h.lo,?hkp⟩
 case hkp =>
  intro k cs t fr k1 k2;have k3:=h.kp k cs t fr k1 k2;refine((grownBy_putObj' V N (.stringIter s j)).block k (ltA k3) (fun e => ?_)).trans k3;injection e with e;rw[e,h.it] at k3;cases k3
 rcases h.own.1.2 with h0|⟨g,cap,c,h0,h1,hh,h2⟩
 ·exact .inl h0
 refine .inr ⟨g,cap,c,h0,h1,?_,h2⟩;have hgn:g≠N:=by
  rintro rfl;exact hne (by rw[h0];rfl)
 exact((grownBy_putObj' V N (.stringIter s j)).block g (ltA hh) (by simpa using hgn)).trans hh
theorem qgU.drew (h:qgU base W N s i v cur V):qgU base W N s i v cur V.drew:=⟨h.own,h.it,h.below.drew,h.lo,h.kp⟩
theorem qs3 (x:Nat)(hx:x<16)(V:World):(Instr.index 9 (.string ⟨#[48,49,50,51,52,53,54,55,56,57,97,98,99,100,101,102]⟩) (.int .i32 x)).run prog V=.ok (qav (qfU x)) V:=by
 have h:x=0∨x=1∨x=2∨x=3∨x=4∨x=5∨x=6∨x=7∨x=8∨x=9∨x=10∨x=11∨x=12∨x=13∨x=14∨x=15:=by omega
 rcases h with rfl|rfl|rfl|rfl|rfl|rfl|rfl|rfl|rfl|rfl|rfl|rfl|rfl|rfl|rfl|rfl<;>(show _=_;kernel_rfl)
theorem qu2 (r:Nat)(hr:r<32):bits .and .i32 (r:Int) 15=((r%16:Nat):Int):=by
 have h:r=0∨r=1∨r=2∨r=3∨r=4∨r=5∨r=6∨r=7∨r=8∨r=9∨r=10∨r=11∨r=12∨r=13∨r=14∨r=15∨r=16∨r=17∨r=18∨r=19∨r=20∨r=21∨r=22∨r=23∨r=24∨r=25∨r=26∨r=27∨r=28∨r=29∨r=30∨r=31:=by omega
 rcases h with rfl|rfl|rfl|rfl|rfl|rfl|rfl|rfl|rfl|rfl|rfl|rfl|rfl|rfl|rfl|rfl|rfl|rfl|rfl|rfl|rfl|rfl|rfl|rfl|rfl|rfl|rfl|rfl|rfl|rfl|rfl|rfl<;>(show _=_;kernel_rfl)
theorem qlX {P:Program}{ev:Operand→Value}(ty:TypeId)(x y:Operand)(ho:o.op=.index ty x y){X Y:Value}(hx:ev x=X)(hy:ev y=Y)(h:(Instr.index ty X Y).run P W=.ok v W):(execOp ev o).run P W=.ok (.value v) W:=by
 unfold execOp;simp only[ho,hx,hy,Sem.run_bind,h,Result.andThen_ok];rfl
theorem qn8 (a b:UInt8)(V:World):(Instr.buildSlice 28 2 #[(0,qav a),(1,qav b)]).run prog V=.ok (.slice (some ⟨V.heap.size,0,none⟩) 2 2) (V.alloc (.cells #[qav a,qav b] 5)):=by kernel_rfl
theorem qkT {a:Act}{w:World}{K:Act→World→Prop}{Q:Exit→Act→World→Prop}(x y:Operand)(ho:o.op=.buildSlice 28 2 #[(0,x),(1,y)])(p q:UInt8)(hx:a.eval x=qav p)(hy:a.eval y=qav q)(h:K (a.put o.dst (.slice (some ⟨w.heap.size,0,none⟩) 2 2)) (w.alloc (.cells #[qav p,qav q] 5))):o.wp prog a w K Q:=by
 have e:(#[(0,x),(1,y)].map fun (i,y)=>(i,a.eval y))=#[((0:Nat),qav p),(1,qav q)]:=by simp[hx,hy]
 unfold Oper.wp execOp;simp only[ho,Sem.run_bind,e,qn8,Result.andThen_ok];exact h
end
section
open Go.RowKit
theorem qms (p q:Addr)(w:World):CallsD prog 64 #[.pointer (some p),.pointer (some q)] .returning w fun e u' w'=>e=.returned (.tuple #[])∧u'=.returning∧w'=w:=by
 refine callsD_of_wpS func64 rfl fun c₀ cs hu => ?_;simp only[ntmps64,List.size_toArray,List.length_cons,List.length_nil,Nat.reduceAdd,Nat.reduceSub,Array.replicate_succ,Array.replicate_zero,List.push_toArray,List.append_toArray,List.nil_append,List.cons_append];apply wpS_seq;apply wpS_region;simp[wpOpsS,go_sem,recoverD,hu,Exit.thenS];refine wpS_of_wp ?_;go_wp2;cases c₀
 simp_all[bodyPostS,results,results64]
theorem qmS (p q:Nat)(en pl x y:Int)(w:World)(hp:w.cell? ⟨p,0,none⟩=some (.int .i64 x))(hq:w.cell? ⟨q,0,none⟩=some (.int .i64 y))(fp:w.frozen? ⟨p,0,none⟩=false)(fq:w.frozen? ⟨q,0,none⟩=false)(hne:p≠q):CallsD prog 64 #[.pointer (some ⟨p,0,none⟩),.pointer (some ⟨q,0,none⟩)] (.panicking [{v:=qeh en pl,recovered:=false}]) w fun e u' w'=>e=.returned (.tuple #[])∧u'=.panicking [{v:=qeh en pl,recovered:=true}] ∧
   (w'.cell? ⟨p,0,none⟩=some (.int .i64 en)∧w'.cell? ⟨q,0,none⟩=some (.int .i64 pl)∧∀B,B≤p→B≤q→B≤w.heap.size→Below B w w'):=by
 refine callsD_of_wpS func64 rfl fun c₀ cs hu => ?_;simp only[ntmps64,List.size_toArray,List.length_cons,List.length_nil,Nat.reduceAdd,Nat.reduceSub,Array.replicate_succ,Array.replicate_zero,List.push_toArray,List.append_toArray,List.nil_append,List.cons_append];apply wpS_seq;apply wpS_region;simp[wpOpsS,go_sem,recoverD,hu,Exit.thenS,qeh];refine wpS_of_wp ?_;have hta:∀w:World,(Instr.typeAssert (.iface 134 (.agg #[.int .i64 en,.int .i64 pl])) 20 134 true).run prog w=.ok (.tuple #[.agg #[.int .i64 en,.int .i64 pl],.bool true]) w:=fun w=>by kernel_rfl
 go_wp2;have hN:w.heap.size≠p∧w.heap.size≠q:=⟨by have h1:p<w.heap.size:=block_lt_of_cell hp;omega,by have h1:q<w.heap.size:=block_lt_of_cell hq;omega⟩
 have a1:(w.alloc (.cells #[.int .i64 en,.int .i64 pl] 134)).cell? ⟨p,0,none⟩=some (.int .i64 x):=(World.cell?_alloc_some w _ _ (by rw[hp];rfl)).trans hp;have a2:(w.alloc (.cells #[.int .i64 en,.int .i64 pl] 134)).cell? ⟨q,0,none⟩=some (.int .i64 y):=(World.cell?_alloc_some w _ _ (by rw[hq];rfl)).trans hq;have hb1:Below w.heap.size w (w.alloc (.cells #[.int .i64 en,.int .i64 pl] 134)):=bwA;have g1:=(hb1.frozen (p:=⟨p,0,none⟩) (block_lt_of_cell hp)).trans fp;have g2:=(hb1.frozen (p:=⟨q,0,none⟩) (block_lt_of_cell hq)).trans fq;have a3:(w.alloc (.cells #[.int .i64 en,.int .i64 pl] 134)).cell? ⟨w.heap.size,0,none⟩=some (.int .i64 en):=qab (qac _ _) 0;have a4:(w.alloc (.cells #[.int .i64 en,.int .i64 pl] 134)).cell? ⟨w.heap.size,1,none⟩=some (.int .i64 pl):=qab (qac _ _) 1;have HB:=qaa hb1;have hn1:=hN.1;have hn2:=hN.2;have hn3:q≠p:=fun e=>hne e.symm;generalize w.alloc (.cells #[.int .i64 en,.int .i64 pl] 134)=V at *
 go_region
 have r1:((V.setCell ⟨p,0,none⟩ (.int .i64 en)).setCell ⟨q,0,none⟩ (.int .i64 pl)).drew.cell? ⟨p,0,none⟩=some (.int .i64 en):=by
  show((V.setCell ⟨p,0,none⟩ (.int .i64 en)).setCell ⟨q,0,none⟩ (.int .i64 pl)).cell? ⟨p,0,none⟩=_;rw[World.cell?_of_block (w:=V.setCell ⟨p,0,none⟩ (.int .i64 en)) (heap_setCell_other _ _ _ _ (by simpa using hne))];exact World.cell?_setCell_same' _ _ _ (by rw[a1];rfl)
 have r2:((V.setCell ⟨p,0,none⟩ (.int .i64 en)).setCell ⟨q,0,none⟩ (.int .i64 pl)).drew.cell? ⟨q,0,none⟩=some (.int .i64 pl):=by
  show((V.setCell ⟨p,0,none⟩ (.int .i64 en)).setCell ⟨q,0,none⟩ (.int .i64 pl)).cell? ⟨q,0,none⟩=_;refine World.cell?_setCell_same' _ _ _ ?_;rw[World.cell?_of_block (w:=V) (heap_setCell_other _ _ _ _ (by simpa using hn3)),a2];rfl
 have r3:∀B,B≤p→B≤q→B≤w.heap.size→Below B w ((V.setCell ⟨p,0,none⟩ (.int .i64 en)).setCell ⟨q,0,none⟩ (.int .i64 pl)).drew:=fun B h1 h2 h3 =>
  (HB.out.mono h3).trans ⟨rfl,rfl,rfl,by simp[World.setCell,World.drew],fun k hk=>(heap_setCell_other _ _ _ _ (by simp;omega)).trans (heap_setCell_other V _ _ _ (by simp;omega))⟩
 generalize ((V.setCell ⟨p,0,none⟩ (.int .i64 en)).setCell ⟨q,0,none⟩ (.int .i64 pl)).drew=X at *;exact⟨rfl,_,rfl,_,results_none rfl _ _ _,rfl,rfl,r1,r2,r3⟩
def qhM (q:Aut)(st:Nat→Nat)(tv sv:Value):Array Value:=#[.slice q.ra q.rs.length q.rc,.int .i64 q.dflt,.map (some q.lm)]++plA st++#[tv,sv,.map (some q.nb),.map (some q.mb)]
theorem qqO (q:Aut)(sv:Value):qvY q sv=qhM q q.st (.slice (some ⟨q.tb,0,none⟩) q.L q.tc) sv:=by kernel_rfl
theorem qo9 (q:Aut)(st:Nat→Nat)(tv sv tv':Value):(qhM q st tv sv).setIfInBounds 19 tv'=qhM q st tv' sv:=by kernel_rfl
theorem qoq (q:Aut)(st:Nat→Nat)(tv sv:Value)(r v:Nat)(hr:r<16):(qhM q st tv sv).setIfInBounds (3+r) (.int .u16 v)=qhM q (fun i=>if i=r then v else st i) tv sv:=by
 have h:=congrArg Array.toList (qik st r v);rw[Array.toList_setIfInBounds] at h;apply Array.ext';unfold qhM;rw[Array.toList_setIfInBounds];simp only[Array.toList_append];rw[List.set_append_left _ _ (by have:=qbR st;simp;omega),List.set_append_right _ _ (by simp),←h];have e:3+r-[Value.slice q.ra q.rs.length q.rc,Value.int IntKind.i64 q.dflt,Value.map (some q.lm)].length=r:=by simp
 rw[e]
theorem qtu (q:Aut)(st:Nat→Nat)(tv sv:Value)(r:Nat)(hr:r<16):(qhM q st tv sv)[3+r]? = some (.int .u16 (st r)):=by
 have hs:=qbR st;unfold qhM;rw[Array.getElem?_append_left (by simp;omega),Array.getElem?_append_right (by simp)];have e:3+r-#[Value.slice q.ra q.rs.length q.rc,Value.int IntKind.i64 q.dflt,Value.map (some q.lm)].size=r:=by simp
 rw[e];exact qcR st r hr
structure TkC (cur:Array Value)(L:Nat)(tk:Nat→Nat→Nat):Prop where
 size:cur.size=L*16
 at_:∀x r,x<L→r<16→cur[x*16+r]? = some (.int .u16 (tk x r))
theorem TkC.set {cur:Array Value}(h:TkC cur L tk)(x r v:Nat)(hx:x<L)(hr:r<16):TkC (cur.setIfInBounds (x*16+r) (.int .u16 v)) L (fun y i=>if y=x∧i=r then v else tk y i):=by
 refine⟨by rw[Array.size_setIfInBounds,h.size],fun y i hy hi => ?_⟩;rw[Array.getElem?_setIfInBounds];by_cases e:y=x∧i=r
 ·rw[if_pos (by rw[e.1,e.2]),if_pos (by rw[h.size];omega),if_pos e]
 rw[if_neg (by omega),if_neg e];exact h.at_ y i hy hi
structure qci (W:World)(A tb L:Nat)(q:Aut)(sv:Value)(st:Nat→Nat)(tk:Nat→Nat→Nat)(V:World):Prop where
 row:V.heap[A]? = some (.cells (qhM q st (.slice (some ⟨tb,0,none⟩) L L) sv) 168)
 tks:∃cur,V.heap[tb]? = some (.cells cur 164)∧TkC cur L tk
 os:V.os=W.os
 tape:V.tape=W.tape
 output:V.output=W.output
 size:W.heap.size≤V.heap.size
 block:∀k,k<W.heap.size→k≠A→V.heap[k]? = W.heap[k]?
theorem qci.next (h:qci W A tb L q sv st tk V)(hb:Below V.heap.size V V'):qci W A tb L q sv st tk V':=by
 obtain⟨cur,t1,t2⟩:=h.tks;exact⟨(hb.block _ (ltA h.row)).trans h.row,⟨cur,(hb.block _ (ltA t1)).trans t1,t2⟩,hb.os.trans h.os,hb.tape.trans h.tape,hb.output.trans h.output,Nat.le_trans h.size hb.size,fun k h1 h2=>(hb.block k (Nat.lt_of_lt_of_le h1 h.size)).trans (h.block k h1 h2)⟩
theorem qlA (V:World)(p:Addr)(v:Value):(V.drew.setCell p v).heap.size=V.heap.size:=by
 have e:(V.drew.setCell p v).heap.size=V.drew.heap.size:=by simp[World.setCell]
 exact e
theorem qci.stays (h:qci W A tb L q sv st tk V)(hne:A≠tb)(r v:Nat)(hr:r<16):qci W A tb L q sv (fun i=>if i=r then v else st i) tk (V.drew.setCell ⟨A,3+r,none⟩ (.int .u16 v)):=by
 obtain⟨cur,t1,t2⟩:=h.tks;have h1:=heap_setCell_same V.drew A (3+r) _ _ (.int .u16 v) h.row;rw[qoq q st _ sv r v hr] at h1;refine⟨h1,⟨cur,(Below.heap_setCell V.drew _ _ _ (by simpa using hne.symm)).trans t1,t2⟩,h.os,h.tape,h.output,by rw[qlA];exact h.size,fun k h2 h3=>(Below.heap_setCell V.drew _ _ _ (by simpa using h3)).trans (h.block k h2 h3)⟩
theorem qci.took (h:qci W A tb L q sv st tk V)(hne:A≠tb)(htb:W.heap.size≤tb)(x r v:Nat)(hx:x<L)(hr:r<16):qci W A tb L q sv st (fun y i=>if y=x∧i=r then v else tk y i) (V.drew.setCell ⟨tb,x*16+r,none⟩ (.int .u16 v)):=by
 obtain⟨cur,t1,t2⟩:=h.tks;exact⟨(Below.heap_setCell V.drew _ _ _ (by simpa using hne)).trans h.row,⟨_,heap_setCell_same V.drew tb (x*16+r) _ _ (.int .u16 v) t1,t2.set x r v hx hr⟩,h.os,h.tape,h.output,by rw[qlA];exact h.size,fun k h2 h3=>(Below.heap_setCell V.drew _ _ _ (by simp;omega)).trans (h.block k h2 h3)⟩
theorem qnN (q:Aut)(st:Nat→Nat)(tv sv:Value):(qhM q st tv sv)[2]? = some (.map (some q.lm)):=by kernel_rfl
theorem qp9 (q:Aut)(st:Nat→Nat)(tv sv:Value):(qhM q st tv sv)[19]? = some tv:=by kernel_rfl
theorem Tryz.infoPlc:(prog.info? 164).map (fun i=>(i.zero,i.size,i.bytes))=some (some (.agg (plA zPl)),16,32):=by kernel_rfl
theorem qxi (n:Nat)(h:n≤128)(w:World):(Instr.makeSlice 165 (.int .i64 (wrap64 (2+(n:Int)))) (.int .i64 (wrap64 (2+(n:Int))))).run prog w=.ok (.slice (some ⟨w.heap.size,0,none⟩) (2+n) (2+n)) (w.alloc (.cells (madeCells (plA zPl) ((2+n)*16)) 164)):=by
 obtain⟨i,hi,h0,h1,h2⟩:=info_parts Tryz.infoPlc;have e:((2+n:Nat):Int).toNat=2+n:=Int.toNat_natCast _;have hr:=run_makeSlice (P:=prog) (w:=w) 165 164 i (.agg (plA zPl)) underlying165 hi h0 .i64 .i64 ((2+n:Nat):Int) ((2+n:Nat):Int) (by omega) (Int.le_refl _) (by rw[e,h1];omega) (by rw[h2];omega) (by omega);rw[e,h1] at hr;rw[wr2 n h];exact hr
theorem qsO (L:Nat):TkC (madeCells (plA zPl) (L*16)) L (fun _ _=>0):=by
 refine⟨size_madeCells _ _,fun x r hx hr => ?_⟩;have hlt:x*16+r<L*16:=by omega
 have hm:(x*16+r)%16<16:=Nat.mod_lt _ (by omega);have h:=qcR zPl ((x*16+r)%16) hm;have e:(plA zPl)[(x*16+r)%(plA zPl).size]! = .int .u16 0:=by
  rw[qbR,getElem!_def,h];rfl
 unfold madeCells;rw[Array.getElem?_map,Array.getElem?_range,if_pos hlt,Option.map_some,e];rfl
theorem qmB (hrow:W.heap[A]? = some (.cells (qhM q (fun _=>0) (.slice none 0 0) sv) 168)):qci W A W.heap.size L q sv (fun _=>0) (fun _ _=>0) ((W.alloc (.cells (madeCells (plA zPl) (L*16)) 164)).setCell ⟨A,19,none⟩ (.slice (some ⟨W.heap.size,0,none⟩) L L)):=by
 have lA:=ltA hrow;have h1:=heap_setCell_same (W.alloc (.cells (madeCells (plA zPl) (L*16)) 164)) A 19 _ _ (.slice (some ⟨W.heap.size,0,none⟩) L L) ((Below.heap_alloc W _ A lA).trans hrow);rw[qo9] at h1;refine⟨h1,⟨_,(Below.heap_setCell _ _ _ _ (by simp;omega)).trans (qac W _),qsO L⟩,rfl,rfl,rfl,?_,fun k h2 h3=>(Below.heap_setCell _ _ _ _ (by simpa using h3)).trans (Below.heap_alloc W _ k h2)⟩;have e:((W.alloc (.cells (madeCells (plA zPl) (L*16)) 164)).setCell ⟨A,19,none⟩ (.slice (some ⟨W.heap.size,0,none⟩) L L)).heap.size=(W.alloc (.cells (madeCells (plA zPl) (L*16)) 164)).heap.size:=by simp[World.setCell]
 rw[e,World.size_alloc];omega
theorem qpF (q:Aut)(st:Nat→Nat)(tv sv:Value):(qhM q st tv sv)[0]? = some (.slice q.ra q.rs.length q.rc):=by kernel_rfl
theorem qci.low {W0:World}(h:qci W A tb L q sv st tk V)(h0:Below W0.heap.size W0 W)(hA:W0.heap.size≤A):Below W0.heap.size W0 V :=
 ⟨h.os.trans h0.os,h.tape.trans h0.tape,h.output.trans h0.output,Nat.le_trans h0.size h.size,fun i hi=>(h.block i (Nat.lt_of_lt_of_le hi h0.size) (by omega)).trans (h0.block i hi)⟩
theorem qci.names {lm:Nat}{ks:List (List UInt8)}(h:qci W A tb L q sv st tk V)(hm:ImK W lm ks)(hne:A≠lm):ImK V lm ks :=
 hm.kept (row:=some A) ⟨h.os,h.tape,h.output,h.size,fun i hi hn=>h.block i hi (by simpa using hn)⟩ (by simpa using hne.symm)
theorem qci.c2 (h:qci W A tb L q sv st tk V):V.cell? ⟨A,2,none⟩=some (.map (some q.lm)):=(cell_of_row V A 2 _ _ _ h.row).trans (qnN _ _ _ _)
theorem qci.c19 (h:qci W A tb L q sv st tk V):V.cell? ⟨A,19,none⟩=some (.slice (some ⟨tb,0,none⟩) L L):=(cell_of_row V A 19 _ _ _ h.row).trans (qp9 _ _ _ _)
theorem qci.cs (h:qci W A tb L q sv st tk V)(r:Nat)(hr:r<16):V.cell? ⟨A,3+r,none⟩=some (.int .u16 (st r))∧V.frozen? ⟨A,3+r,none⟩=false :=
 ⟨(cell_of_row V A (3+r) _ _ _ h.row).trans (qtu _ _ _ _ r hr),frozen_of_row V A (3+r) _ _ h.row⟩
theorem qci.ct (h:qci W A tb L q sv st tk V)(x r:Nat)(hx:x<L)(hr:r<16):V.cell? ⟨tb,x*16+r,none⟩=some (.int .u16 (tk x r))∧V.frozen? ⟨tb,x*16+r,none⟩=false:=by
 obtain⟨cur,h1,h2⟩:=h.tks;exact⟨(cell_of_row V tb (x*16+r) _ _ _ h1).trans (h2.at_ x r hx hr),frozen_of_row V tb (x*16+r) _ _ h1⟩
theorem qrV (st:Nat→Nat)(k j:Nat):(fun i=>if i=k then st k ||| 2^j else st i)=stU st k j true:=by
 funext i;unfold stU;by_cases h:i=k
 ·subst h;rw[if_pos rfl,if_pos ⟨rfl,rfl⟩]
 rw[if_neg h,if_neg (fun e=>h e.1)]
theorem qec (st:Nat→Nat)(k j:Nat):stU st k j false=st:=by
 funext i;unfold stU;rw[if_neg (by simp)]
theorem qci.alike {tk':Nat→Nat→Nat}(h:qci W A tb L q sv st tk V)(he:∀x r,x<L→tk' x r=tk x r):qci W A tb L q sv st tk' V:=by
 obtain⟨cur,h1,h2,h3⟩:=h.tks;exact⟨h.row,⟨cur,h1,h2,fun x r hx hr=>by rw[he x r hx];exact h3 x r hx hr⟩,h.os,h.tape,h.output,h.size,h.block⟩
def tk1 (tk:Nat→Nat→Nat)(x k j:Nat):Nat→Nat→Nat:=fun y i=>if y=x∧i=k then tk x k ||| 2^j else tk y i
theorem qci.one (h:qci W A tb L q sv st tk V)(hne:A≠tb)(htb:W.heap.size≤tb)(x k j:Nat)(hx:x<L)(hk:k<16):qci W A tb L q sv st (tk1 tk x k j) (V.drew.setCell ⟨tb,x*16+k,none⟩ (.int .u16 ((tk x k ||| 2^j:Nat):Int))):=h.took hne htb x k (tk x k ||| 2^j) hx hk
def tkm (tk:Nat→Nat→Nat)(m k j:Nat):Nat→Nat→Nat:=fun y=>if y<m then stU (tk y) k j true else tk y
theorem qq3 (tk:Nat→Nat→Nat)(k j:Nat):tkm tk 0 k j=tk:=by
 funext y;unfold tkm;rw[if_neg (by omega)]
theorem qqH (tk:Nat→Nat→Nat)(m k j:Nat):tk1 (tkm tk m k j) m k j=tkm tk (m+1) k j:=by
 funext y i;unfold tk1 tkm;by_cases h:y=m
 ·subst h;rw[if_pos (by omega:y<y+1)];by_cases hi:i=k
  ·subst hi;rw[if_pos ⟨rfl,rfl⟩,if_neg (by omega:¬y<y)];unfold stU;rw[if_pos ⟨rfl,rfl⟩]
  rw[if_neg (fun e=>hi e.2),if_neg (by omega:¬y<y)];unfold stU;rw[if_neg (fun e=>hi e.1)]
 rw[if_neg (fun e=>h e.1)];by_cases h2:y<m
 ·rw[if_pos h2,if_pos (by omega:y<m+1)]
 rw[if_neg h2,if_neg (by omega:¬y<m+1)]
theorem qsr (tk:Nat→Nat→Nat)(x k j:Nat)(y:Nat):tk1 tk x k j y=stU (tk y) k j (y==x):=by
 funext i;unfold tk1 stU;by_cases h:y=x
 ·subst h;by_cases hi:i=k
  ·subst hi;rw[if_pos ⟨rfl,rfl⟩,if_pos ⟨rfl,by simp⟩]
  rw[if_neg (fun e=>hi e.2),if_neg (fun e=>hi e.1)]
 rw[if_neg (fun e=>h e.1),if_neg (fun e=>h (by simpa using e.2))]
end
end Go.Proofs.YtllcbnfmihfaaaaGreatDoor
