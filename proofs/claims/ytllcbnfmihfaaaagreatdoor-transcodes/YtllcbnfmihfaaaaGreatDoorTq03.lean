import Derived.BigCall
import Derived.Maps.AppendAt
import Derived.Deep.OwnRows
import Derived.RangeFuncBox
import Derived.Defers
import Derived.Recover
import Derived.Test.YtllcbnfmihfaaaaGreatDoorTq01
set_option maxRecDepth 100000
set_option maxHeartbeats 8000000
namespace Go.Proofs.YtllcbnfmihfaaaaGreatDoor
open Go.Proofs.Tryz
variable {W W':World}{base n:Nat}{u v v':Value}{xs:List Value}{bs ys:List UInt8}{b:UInt8}
section
open Go.RowKit
theorem Tryz.infoU8:(prog.info? 5).map (fun i=>(i.zero,i.size,i.bytes))=some (some (.int .u8 0),1,1):=by kernel_rfl
def qav (b:UInt8):Value:=.int .u8 b.toNat
theorem qbA {e:TypeId}{size:Nat}(ho:W.ownsRow base e size v n xs){g:Nat}(h:v.ownBlock=some g):base≤g:=by
 rcases ho.2 with ⟨h0,_⟩|⟨g',cap,cur,rfl,hb',_⟩
 ·subst h0;cases h
 cases h;exact hb'
theorem qag (w:World)(cs:Array Value)(t:TypeId):∀(j:Nat) (u:Value),cs.toList[j]? = some u→(w.alloc (.cells cs t)).cell? ((⟨w.heap.size,0,none⟩:Addr).add j)=some u:=fun j u hu=>by
 have e:(⟨w.heap.size,0,none⟩:Addr).add j=⟨w.heap.size,j,none⟩:=by by_cases h:j=0<;>simp[Addr.add,h]
 rw[e,cell_of_row _ _ _ _ _ _ (qac _ _)];simpa using hu
def Own (W:World)(base:Nat)(v:Value)(bs:List UInt8):Prop:=W.ownsRow base 5 1 v bs.length (bs.map qav)∧base≤W.heap.size∧∃a n c,v=.slice a n c
def beF (x:Nat):Nat→List UInt8
 |0=>[]
 |k+1=>UInt8.ofNat (x / 2^(8*k)%256)::beF x k
theorem qlF (x k:Nat):qav (UInt8.ofNat (x / 2^(8*k)%256))=.int .u8 ((x:Int) / 2^(8*k)%256):=by
 unfold qav;have e:(UInt8.ofNat (x / 2^(8*k)%256)).toNat=x / 2^(8*k)%256:=by
  rw[UInt8.toNat_ofNat'];have:x / 2^(8*k)%256<256:=Nat.mod_lt _ (by decide);omega
 rw[e];congr 1
theorem qbG (h:W'.ownsRow base 5 1 v' (ys.length+1) (ys.map qav++[u]))(hu:qav b=u):W'.ownsRow base 5 1 v' (ys++[b]).length ((ys++[b]).map qav):=by
 rw[List.length_append,List.map_append];subst hu;exact h
theorem qaz {V:World}{t:TypeId}{z:Nat}(hb:Below base W V)(ho:V.ownsRow base t z v n xs)(hg:V.grownBy W' v.ownBlock)(hs:base≤V.heap.size):Below base W W' :=
 hb.trans ⟨hg.os,hg.tape,hg.output,hg.size,fun i hi=>hg.block i (by omega) (fun e=>by have:=qbA ho e.symm;omega)⟩
theorem qaq (W:World)(base:Nat)(v:Value)(bs:List UInt8)(x w:Nat)(_hx:x<18446744073709551616)(hw:w≤8)(hl:bs.length≤1000000000)(h:Own W base v bs):Calls prog 202 #[v,.int .u64 x,.int .i64 w] W fun e W'=>∃v',e=.returned v'∧Own W' base v' (bs++beF x w)∧Below base W W':=by
 obtain⟨i0,hi,hz0,hz1,hz2⟩:=info_parts Tryz.infoU8;obtain⟨ho,hb,a,n,c,rfl⟩:=h;have HO:=qaa ho;go_enter func202,ntmps202;go_wp2
 go_loopg [0,7] w (fun g y z wr=>∃(ys:List UInt8) (a n c:_),y=.slice a n c∧z=.int .i64 ((g:Int)-1)∧g≤w∧ys.length≤1000000000+(w-g)∧base≤wr.heap.size∧Hid (wr.ownsRow base 5 1 (.slice a n c) ys.length (ys.map qav))∧Hid (Below base W wr)∧Hid (ys++beF x g=bs++beF x w))
 case atStart=>exact⟨bs,a,n,c,rfl,by go_num,Nat.le_refl _,by omega,hb,HO,Below.refl _ _,rfl⟩
 case round =>
  obtain⟨ys,a,n,c,rfl,rfl,hg,hyl,hb,HO,HB,HE⟩:=hrel
  cases gk with
  |zero =>
   go_wp2;go_ret;have e:ys=bs++beF x w:=by have:=HE.out;simpa [beF] using this
   subst e;exact⟨_,rfl,⟨HO.out,hb,_,_,_,rfl⟩,HB.out⟩
  |succ k =>
   go_wp2_with (first
    |(at_builtin;refine wpList_append_own _ rfl _ _ 28 rfl base 5 i0 (.int .u8 0) 1 1 underlying28 hi hz0 hz1 hz2 rfl (by decide) _ _ _ rfl (HO.out.alloc _) ⟨wr.heap.size,0,none⟩ 1 1 [.int .u8 ((x:Int) / 2^(8*k)%256)] rfl rfl (qag _ _ _) (fun u hu=>by simp at hu;subst hu;rfl) (by unfold maxLen;omega) (by omega) (by simp;omega) ?_;intro v' w5 hown' hgrow5 hnil5;obtain⟨g5,cap5,rfl⟩:=ownsRow_succ hown'))
   go_roundg k
   case measure=>omega
   case rel =>
    refine⟨ys++[UInt8.ofNat (x / 2^(8*k)%256)],_,_,_,rfl,by go_num,by omega,by rw[List.length_append];simp;omega,?_,qbG hown' (qlF x k),qaz (HB.out.trans ((Below.refl base wr).alloc hb _)) (HO.out.alloc _) hgrow5 (by simp;omega),?_⟩
    ·have:=hgrow5.size;simp at this;omega
    show _=_;have:=HE.out;rw[beF] at this;rw[List.append_assoc];exact this
def qbf (x:Nat):List UInt8 :=
 if x<128 then [UInt8.ofNat x] else if x≤255 then 204::beF x 1 else if x≤65535 then 205::beF x 2 else if x≤4294967295 then 206::beF x 4 else 207::beF x 8
def qbo (z:Int):List UInt8 :=
 if -32≤z then [UInt8.ofNat (z%256).toNat] else if -128≤z then 208::beF (z%18446744073709551616).toNat 1 else if -32768≤z then 209::beF (z%18446744073709551616).toNat 2 else if -2147483648≤z then 210::beF (z%18446744073709551616).toNat 4 else 211::beF (z%18446744073709551616).toNat 8
def qaj (s x:Nat):List UInt8 :=
 if x<24 then [UInt8.ofNat (32*s+x)] else if x≤255 then UInt8.ofNat (32*s+24)::beF x 1 else if x≤65535 then UInt8.ofNat (32*s+25)::beF x 2 else if x≤4294967295 then UInt8.ofNat (32*s+26)::beF x 4 else UInt8.ofNat (32*s+27)::beF x 8
theorem qaQ (x:Nat)(h:x<256):qav (UInt8.ofNat x)=.int .u8 (x:Int):=by
 unfold qav;rw[UInt8.toNat_ofNat',Nat.mod_eq_of_lt (by omega)]
theorem qax {a:Option Addr}{c:Nat}(hb:base≤W.heap.size)(ho:W.ownsRow base 5 1 (.slice a n c) bs.length (bs.map qav))(hu:qav b=u)(hown:W'.ownsRow base 5 1 v' (bs.length+1) (bs.map qav++[u]))(hgrow:(W.alloc (Obj.cells #[u] 5)).grownBy W' (Value.slice a n c).ownBlock):Own W' base v' (bs++[b])∧Below base W W':=by
 have h2:=qbG hown hu;obtain⟨g5,cap5,rfl⟩:=ownsRow_succ hown;refine⟨⟨h2,?_,_,_,_,rfl⟩,qaz ((Below.refl base W).alloc hb _) (ho.alloc _) hgrow (by simp;omega)⟩;have:=hgrow.size;simp at this;omega
theorem qaJ {W2:World}{zs:List UInt8}{v2:Value}(h:Own W' base v' (bs++[b])∧Below base W W')(h2:Own W2 base v2 ((bs++[b])++ys))(hB:Below base W' W2)(e:b::ys=zs):Own W2 base v2 (bs++zs)∧Below base W W2:=by
 subst e;refine⟨?_,h.2.trans hB⟩;rw[List.append_assoc] at h2;exact h2
theorem qlh (W:World)(base:Nat)(v:Value)(bs:List UInt8)(x:Nat)(hx:x<18446744073709551616)(hl:bs.length≤999999999)(h:Own W base v bs):Calls prog 166 #[v,.int .u64 x] W fun e W'=>∃v',e=.returned v'∧Own W' base v' (bs++qbf x)∧Below base W W':=by
 obtain⟨i0,hi,hz0,hz1,hz2⟩:=info_parts Tryz.infoU8;obtain⟨ho,hb,a,n,c,rfl⟩:=h;have HO:=qaa ho;by_cases c0:x<128
 ·have hr:Hid (qbf x=UInt8.ofNat x::[]):=by show _=_;unfold qbf;rw[if_pos c0]
  go_enter func166,ntmps166
  go_wp2_with (first
    |(at_builtin;refine wpList_append_own _ rfl _ _ 28 rfl base 5 i0 (.int .u8 0) 1 1 underlying28 hi hz0 hz1 hz2 rfl (by decide) _ _ _ rfl (HO.out.alloc _) ⟨W.heap.size,0,none⟩ 1 1 [.int .u8 (x:Int)] rfl rfl (qag _ _ _) (fun u hu=>by simp at hu;subst hu;rfl) (by unfold maxLen;omega) (by omega) (by simp;omega) ?_;intro v' w5 hown' hgrow5 hnil5;obtain⟨g5,cap5,rfl⟩:=ownsRow_succ hown';have HB:Hid (Own w5 base _ (bs++[UInt8.ofNat x])∧Below base W w5):=qax hb HO.out (qaQ _ (by omega)) hown' hgrow5))
  go_ret;rw[hr.out];exact⟨_,rfl,HB.out⟩
 skip
 by_cases c1:x≤255
 ·have hr:Hid (qbf x=204::beF x 1):=by show _=_;unfold qbf;rw[if_neg c0];rw[if_pos c1]
  go_enter func166,ntmps166
  go_wp2_with (first
    |(at_builtin;refine wpList_append_own _ rfl _ _ 28 rfl base 5 i0 (.int .u8 0) 1 1 underlying28 hi hz0 hz1 hz2 rfl (by decide) _ _ _ rfl (HO.out.alloc _) ⟨W.heap.size,0,none⟩ 1 1 [.int .u8 204] rfl rfl (qag _ _ _) (fun u hu=>by simp at hu;subst hu;rfl) (by unfold maxLen;omega) (by omega) (by simp;omega) ?_;intro v' w5 hown' hgrow5 hnil5;obtain⟨g5,cap5,rfl⟩:=ownsRow_succ hown';have HB:Hid (Own w5 base _ (bs++[204])∧Below base W w5):=qax hb HO.out (rfl) hown' hgrow5)
    |(go_at_call 202;refine(qaq _ base _ _ (x) 1 (by omega) (by omega) (by simp;omega) HB.out.1).mono ?_;rintro e w6 ⟨v6,rfl,h6,hB6⟩;obtain⟨h61,h62,a6,n6,c6,rfl⟩:=h6;have HC:=qaa (qaJ HB.out ⟨h61,h62,a6,n6,c6,rfl⟩ hB6 (hr.out.symm))))
  go_ret;exact⟨_,rfl,HC.out⟩
 skip
 by_cases c2:x≤65535
 ·have hr:Hid (qbf x=205::beF x 2):=by show _=_;unfold qbf;rw[if_neg c0];rw[if_neg c1];rw[if_pos c2]
  go_enter func166,ntmps166
  go_wp2_with (first
    |(at_builtin;refine wpList_append_own _ rfl _ _ 28 rfl base 5 i0 (.int .u8 0) 1 1 underlying28 hi hz0 hz1 hz2 rfl (by decide) _ _ _ rfl (HO.out.alloc _) ⟨W.heap.size,0,none⟩ 1 1 [.int .u8 205] rfl rfl (qag _ _ _) (fun u hu=>by simp at hu;subst hu;rfl) (by unfold maxLen;omega) (by omega) (by simp;omega) ?_;intro v' w5 hown' hgrow5 hnil5;obtain⟨g5,cap5,rfl⟩:=ownsRow_succ hown';have HB:Hid (Own w5 base _ (bs++[205])∧Below base W w5):=qax hb HO.out (rfl) hown' hgrow5)
    |(go_at_call 202;refine(qaq _ base _ _ (x) 2 (by omega) (by omega) (by simp;omega) HB.out.1).mono ?_;rintro e w6 ⟨v6,rfl,h6,hB6⟩;obtain⟨h61,h62,a6,n6,c6,rfl⟩:=h6;have HC:=qaa (qaJ HB.out ⟨h61,h62,a6,n6,c6,rfl⟩ hB6 (hr.out.symm))))
  go_ret;exact⟨_,rfl,HC.out⟩
 skip
 by_cases c3:x≤4294967295
 ·have hr:Hid (qbf x=206::beF x 4):=by show _=_;unfold qbf;rw[if_neg c0];rw[if_neg c1];rw[if_neg c2];rw[if_pos c3]
  go_enter func166,ntmps166
  go_wp2_with (first
    |(at_builtin;refine wpList_append_own _ rfl _ _ 28 rfl base 5 i0 (.int .u8 0) 1 1 underlying28 hi hz0 hz1 hz2 rfl (by decide) _ _ _ rfl (HO.out.alloc _) ⟨W.heap.size,0,none⟩ 1 1 [.int .u8 206] rfl rfl (qag _ _ _) (fun u hu=>by simp at hu;subst hu;rfl) (by unfold maxLen;omega) (by omega) (by simp;omega) ?_;intro v' w5 hown' hgrow5 hnil5;obtain⟨g5,cap5,rfl⟩:=ownsRow_succ hown';have HB:Hid (Own w5 base _ (bs++[206])∧Below base W w5):=qax hb HO.out (rfl) hown' hgrow5)
    |(go_at_call 202;refine(qaq _ base _ _ (x) 4 (by omega) (by omega) (by simp;omega) HB.out.1).mono ?_;rintro e w6 ⟨v6,rfl,h6,hB6⟩;obtain⟨h61,h62,a6,n6,c6,rfl⟩:=h6;have HC:=qaa (qaJ HB.out ⟨h61,h62,a6,n6,c6,rfl⟩ hB6 (hr.out.symm))))
  go_ret;exact⟨_,rfl,HC.out⟩
 skip
 have hr:Hid (qbf x=207::beF x 8):=by show _=_;unfold qbf;rw[if_neg c0];rw[if_neg c1];rw[if_neg c2];rw[if_neg c3]
 go_enter func166,ntmps166
 go_wp2_with (first
   |(at_builtin;refine wpList_append_own _ rfl _ _ 28 rfl base 5 i0 (.int .u8 0) 1 1 underlying28 hi hz0 hz1 hz2 rfl (by decide) _ _ _ rfl (HO.out.alloc _) ⟨W.heap.size,0,none⟩ 1 1 [.int .u8 207] rfl rfl (qag _ _ _) (fun u hu=>by simp at hu;subst hu;rfl) (by unfold maxLen;omega) (by omega) (by simp;omega) ?_;intro v' w5 hown' hgrow5 hnil5;obtain⟨g5,cap5,rfl⟩:=ownsRow_succ hown';have HB:Hid (Own w5 base _ (bs++[207])∧Below base W w5):=qax hb HO.out (rfl) hown' hgrow5)
   |(go_at_call 202;refine(qaq _ base _ _ (x) 8 (by omega) (by omega) (by simp;omega) HB.out.1).mono ?_;rintro e w6 ⟨v6,rfl,h6,hB6⟩;obtain⟨h61,h62,a6,n6,c6,rfl⟩:=h6;have HC:=qaa (qaJ HB.out ⟨h61,h62,a6,n6,c6,rfl⟩ hB6 (hr.out.symm))))
 go_ret;exact⟨_,rfl,HC.out⟩
theorem qms (p q:Addr)(w:World):CallsD prog 64 #[.pointer (some p),.pointer (some q)] .returning w fun e u' w'=>e=.returned (.tuple #[])∧u'=.returning∧w'=w:=by
 refine callsD_of_wpS func64 rfl fun c₀ cs hu => ?_;simp only[ntmps64,List.size_toArray,List.length_cons,List.length_nil,Nat.reduceAdd,Nat.reduceSub,Array.replicate_succ,Array.replicate_zero,List.push_toArray,List.append_toArray,List.nil_append,List.cons_append];apply wpS_seq;apply wpS_region;simp[wpOpsS,go_sem,recoverD,hu,Exit.thenS];refine wpS_of_wp ?_;go_wp2;cases c₀
 simp_all[bodyPostS,results,results64]
theorem qmS (p q:Nat)(en pl x y:Int)(w:World)(hp:w.cell? ⟨p,0,none⟩=some (.int .i64 x))(hq:w.cell? ⟨q,0,none⟩=some (.int .i64 y))(fp:w.frozen? ⟨p,0,none⟩=false)(fq:w.frozen? ⟨q,0,none⟩=false)(hne:p≠q):CallsD prog 64 #[.pointer (some ⟨p,0,none⟩),.pointer (some ⟨q,0,none⟩)] (.panicking [{v:=qeh en pl,recovered:=false}]) w fun e u' w'=>e=.returned (.tuple #[])∧u'=.panicking [{v:=qeh en pl,recovered:=true}] ∧
   (w'.cell? ⟨p,0,none⟩=some (.int .i64 en)∧w'.cell? ⟨q,0,none⟩=some (.int .i64 pl)∧∀B,B≤p→B≤q→B≤w.heap.size→Below B w w'):=by
 refine callsD_of_wpS func64 rfl fun c₀ cs hu => ?_;simp only[ntmps64,List.size_toArray,List.length_cons,List.length_nil,Nat.reduceAdd,Nat.reduceSub,Array.replicate_succ,Array.replicate_zero,List.push_toArray,List.append_toArray,List.nil_append,List.cons_append];apply wpS_seq;apply wpS_region;simp[wpOpsS,go_sem,recoverD,hu,Exit.thenS,qeh];refine wpS_of_wp ?_;have hta:∀w:World,(Instr.typeAssert (.iface 134 (.agg #[.int .i64 en,.int .i64 pl])) 20 134 true).run prog w=.ok (.tuple #[.agg #[.int .i64 en,.int .i64 pl],.bool true]) w:=fun w=>by kernel_rfl
 go_wp2;have hN:w.heap.size≠p∧w.heap.size≠q:=⟨by have h1:p<w.heap.size:=block_lt_of_cell hp;omega,by have h1:q<w.heap.size:=block_lt_of_cell hq;omega⟩
 have a1:(w.alloc (.cells #[.int .i64 en,.int .i64 pl] 134)).cell? ⟨p,0,none⟩=some (.int .i64 x):=(World.cell?_alloc_some w _ _ (by rw[hp];rfl)).trans hp;have a2:(w.alloc (.cells #[.int .i64 en,.int .i64 pl] 134)).cell? ⟨q,0,none⟩=some (.int .i64 y):=(World.cell?_alloc_some w _ _ (by rw[hq];rfl)).trans hq;have hb1:Below w.heap.size w (w.alloc (.cells #[.int .i64 en,.int .i64 pl] 134)):=bwA;have g1:=(hb1.frozen (p:=⟨p,0,none⟩) (block_lt_of_cell hp)).trans fp;have g2:=(hb1.frozen (p:=⟨q,0,none⟩) (block_lt_of_cell hq)).trans fq;have a3:(w.alloc (.cells #[.int .i64 en,.int .i64 pl] 134)).cell? ⟨w.heap.size,0,none⟩=some (.int .i64 en):=qab (qac _ _) 0;have a4:(w.alloc (.cells #[.int .i64 en,.int .i64 pl] 134)).cell? ⟨w.heap.size,1,none⟩=some (.int .i64 pl):=qab (qac _ _) 1;have HB:=qaa hb1;have hn1:=hN.1;have hn2:=hN.2;have hn3:q≠p:=fun e=>hne e.symm;generalize w.alloc (.cells #[.int .i64 en,.int .i64 pl] 134)=V at *
 go_region
 have r1:((V.setCell ⟨p,0,none⟩ (.int .i64 en)).setCell ⟨q,0,none⟩ (.int .i64 pl)).drew.cell? ⟨p,0,none⟩=some (.int .i64 en):=by
  show((V.setCell ⟨p,0,none⟩ (.int .i64 en)).setCell ⟨q,0,none⟩ (.int .i64 pl)).cell? ⟨p,0,none⟩=_;rw[World.cell?_of_block (w:=V.setCell ⟨p,0,none⟩ (.int .i64 en)) (heap_setCell_other _ _ _ _ (by simpa using hne))];exact World.cell?_setCell_same' _ _ _ (by rw[a1];rfl)
 have r2:((V.setCell ⟨p,0,none⟩ (.int .i64 en)).setCell ⟨q,0,none⟩ (.int .i64 pl)).drew.cell? ⟨q,0,none⟩=some (.int .i64 pl):=by
  show((V.setCell ⟨p,0,none⟩ (.int .i64 en)).setCell ⟨q,0,none⟩ (.int .i64 pl)).cell? ⟨q,0,none⟩=_;refine World.cell?_setCell_same' _ _ _ ?_;rw[World.cell?_of_block (w:=V) (heap_setCell_other _ _ _ _ (by simpa using hn3)),a2];rfl
 have r3:∀B,B≤p→B≤q→B≤w.heap.size→Below B w ((V.setCell ⟨p,0,none⟩ (.int .i64 en)).setCell ⟨q,0,none⟩ (.int .i64 pl)).drew:=fun B h1 h2 h3 =>
  (HB.out.mono h3).trans ⟨rfl,rfl,rfl,by simp[World.setCell,World.drew],fun k hk=>(heap_setCell_other _ _ _ _ (by simp;omega)).trans (heap_setCell_other V _ _ _ (by simp;omega))⟩
 generalize ((V.setCell ⟨p,0,none⟩ (.int .i64 en)).setCell ⟨q,0,none⟩ (.int .i64 pl)).drew=X at *;exact⟨rfl,_,rfl,_,results_none rfl _ _ _,rfl,rfl,r1,r2,r3⟩
end
end Go.Proofs.YtllcbnfmihfaaaaGreatDoor
