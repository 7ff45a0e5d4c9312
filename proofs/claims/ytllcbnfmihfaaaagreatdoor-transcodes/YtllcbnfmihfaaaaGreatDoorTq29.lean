import Derived.Laws.Concat
import Derived.Test.YtllcbnfmihfaaaaGreatDoorTq28
import Derived.Test.YtllcbnfmihfaaaaGreatDoorTq24
set_option maxRecDepth 100000
set_option maxHeartbeats 8000000
namespace Go.Proofs.YtllcbnfmihfaaaaGreatDoor
open Go.Proofs.Tryz
variable {V V' W w:World}{F X:Nat→Prop}{u v:Value}{ops:Array Oper}{Q:Exit→Act→World→Prop}{a:Act}{A:Array Value}
section
open Go.RowKit Go.Lib
theorem Tryz.infoBs:(prog.info? 28).map (fun i=>(i.zero,i.size,i.bytes))=some (some (.slice none 0 0),1,24):=by kernel_rfl
structure q63 (B b0:Nat)(cs gv lv:Value)(N:Nat)(xs:List Value)(V:World):Prop where
 wd:V.heap[B]? = some (.cells #[cs,gv,lv] 71)
 row:V.ownsRow b0 28 1 lv N xs
 ne:∀g,lv.ownBlock=some g→g≠B
structure Frm (W V:World)(X:Nat→Prop):Prop where
 os:V.os=W.os
 tape:V.tape=W.tape
 output:V.output=W.output
 size:W.heap.size≤V.heap.size
 block:∀j,j<W.heap.size→¬X j→V.heap[j]? = W.heap[j]?
theorem Frm.refl (W:World)(X:Nat→Prop):Frm W W X:=⟨rfl,rfl,rfl,Nat.le_refl _,fun _ _ _=>rfl⟩
theorem Frm.next (h:Frm W V X)(h2:Frm V V' X):Frm W V' X:=⟨h2.os.trans h.os,h2.tape.trans h.tape,h2.output.trans h.output,Nat.le_trans h.size h2.size,fun j hj hx=>(h2.block j (Nat.lt_of_lt_of_le hj h.size) hx).trans (h.block j hj hx)⟩
theorem q3L (h:Below W.heap.size W V):Frm W V X:=⟨h.os,h.tape,h.output,h.size,fun j hj _=>h.block j hj⟩
theorem qy5 {o:Obj}{r:Option Nat}(h:(W.alloc o).grownBy V r)(hr:∀g,r=some g→g<W.heap.size→X g):Frm W V X :=
 ⟨h.os,h.tape,h.output,by have:=h.size;simp at this;omega,fun j hj hx=>(h.block j (by simp;omega) (fun e=>hx (hr j e.symm hj))).trans (Below.heap_alloc _ _ _ hj)⟩
theorem q0W {g k:Nat}(hx:X g):Frm W (W.setCell ⟨g,k,none⟩ v) X:=⟨rfl,rfl,rfl,by simp[World.setCell],fun j _ hn=>heap_setCell_other W _ _ _ (by simp;intro e;subst e;exact hn hx)⟩
theorem wop {i:Nat}{K:Act→World→Prop}{o:Oper}(hi:ops[i]? = some o)(hg:o.guard=none)(h:o.upon prog a K Q ((execOp a.eval o).run prog w)):wpOp prog ops Q i K a w:=by
 unfold wpOp;rw[hi];simp only[Region.wanted,hg,if_true];exact .inl h
theorem q1Z (a:Act)(p:Nat)(y:Value)(h:p<a.tmps.size):(a.put (some p) y).eval (.tmp p)=y:=by
 simp[Act.put,Act.eval,Array.getD,h]
theorem q0M (a:Act)(i j:Nat)(u v:Value)(h:i≠j):(a.put (some i) u).put (some j) v=(a.put (some j) v).put (some i) u:=by
 simp only[Act.put];rw[Array.setIfInBounds_comm _ _ h]
theorem q2R (a:Act)(p:Nat)(y:Value):(a.put (some p) y).tmps.size=a.tmps.size:=by simp[Act.put]
theorem q5s (w:World)(g:Nat)(b:UInt8)(hc:w.cell? ⟨g,0,none⟩=some (.int .u8 (b.toNat:Int))):(convert 28 9 (.slice (some ⟨g,0,none⟩) 1 1)).run prog w=.ok (.string ⟨#[b]⟩) w:=by
 refine run_convert_bytes_back _ 28 9 5 ⟨g,0,none⟩ 1 [b] underlying28 underlying5 underlying9 ?_;intro j hj;obtain rfl:j=0:=by simpa using hj
 exact hc
theorem tri {S:World→Prop}{fuel:Nat}{listed:Array Bool}{oc ob ov:Oper}{args:Array Value}(c b v dc p q:Nat)(f:FuncId)(r:Value)(u:UInt8)(hop:ops[c]? = some oc∧ops[b]? = some ob∧ops[v]? = some ov)(hk:(oc.guard,oc.dst,ob.guard,ob.dst,ov.guard,ov.dst,ov.op)=(none,some dc,none,some p,none,some q,.convert 28 9 (.tmp p)))(hr:((Region.ready .any ops listed).all (fun i=>i==c||i==b)&&(Region.ready .any ops (listed.setIfInBounds c true)).all (·==b)&&(Region.ready .any ops (listed.setIfInBounds b true)).all (fun i=>i==c||i==v)&&(Region.ready .any ops ((listed.setIfInBounds c true).setIfInBounds b true)).all (·==v)&&(Region.ready .any ops ((listed.setIfInBounds b true).setIfInBounds v true)).all (·==c) && !(Region.ready .any ops listed).isEmpty && !(Region.ready .any ops (listed.setIfInBounds c true)).isEmpty && !(Region.ready .any ops (listed.setIfInBounds b true)).isEmpty && !(Region.ready .any ops ((listed.setIfInBounds c true).setIfInBounds b true)).isEmpty && !(Region.ready .any ops ((listed.setIfInBounds b true).setIfInBounds v true)).isEmpty&&decide (c≠b∧c≠v∧b≠v∧dc≠p∧dc≠q∧p≠q∧p<a.tmps.size))=true)(hc:∀y z V,(execOp a.eval oc).run prog V=.ok (.enter f args) V∧(execOp (a.put (some p) y).eval oc).run prog V=.ok (.enter f args) V∧(execOp ((a.put (some p) y).put (some q) z).eval oc).run prog V=.ok (.enter f args) V)(hb:∀V,(execOp a.eval ob).run prog V=.ok (.value (.slice (some ⟨V.heap.size,0,none⟩) 1 1)) (V.alloc (.cells #[.int .u8 u.toNat] 5))∧(execOp (a.put (some dc) r).eval ob).run prog V=.ok (.value (.slice (some ⟨V.heap.size,0,none⟩) 1 1)) (V.alloc (.cells #[.int .u8 u.toNat] 5)))(hC:∀V,Calls prog f args V fun e V'=>e=.returned r∧Below V.heap.size V V')(hS:∀V,Below w.heap.size w V→S V)(h:∀V y,Below w.heap.size w V→wpAnyH prog .any ops Q S fuel (((listed.setIfInBounds c true).setIfInBounds b true).setIfInBounds v true) (((a.put (some dc) r).put (some p) y).put (some q) (.string ⟨#[u]⟩)) V):wpAnyH prog .any ops Q S (fuel+3) listed a w:=by
 simp only[Bool.and_eq_true,List.all_eq_true,Bool.or_eq_true,beq_iff_eq,decide_eq_true_eq,Bool.not_eq_true',List.isEmpty_eq_false_iff] at hr;obtain⟨⟨⟨⟨⟨⟨⟨⟨⟨⟨r1,r2⟩,r3⟩,r4⟩,r5⟩,n1⟩,n2⟩,n3⟩,n4⟩,n5⟩,d1,d2,d3,d4,d5,d6,d7⟩:=hr;simp only[Prod.mk.injEq] at hk;obtain⟨g1,g2,g3,g4,g5,g6,g7⟩:=hk;obtain⟨o1,o2,o3⟩:=hop;have call:∀{a':Act} {V:World} {K:Act→World→Prop},(execOp a'.eval oc).run prog V=.ok (.enter f args) V→(∀V',Below V.heap.size V V'→K (a'.put (some dc) r) V')→wpOp prog ops Q c K a' V:=fun {a' V K} e k=>by
  refine wop o1 g1 ?_;rw[e];refine(hC V).mono ?_;rintro e V' ⟨rfl,hB⟩;show K (a'.put oc.dst r) V';rw[g2];exact k V' hB
 have conv:∀{a':Act} {V:World} {K:Act→World→Prop} {g:Nat},a'.eval (.tmp p)=.slice (some ⟨g,0,none⟩) 1 1→V.cell? ⟨g,0,none⟩=some (.int .u8 (u.toNat:Int))→K (a'.put (some q) (.string ⟨#[u]⟩)) V→wpOp prog ops Q v K a' V:=fun {a' V K g} e k h=>by
  refine wop o3 g5 ?_;unfold execOp;simp only[g7,e,Sem.run_bind,q5s V g u k];show K (a'.put ov.dst _) V;rw[g6];exact h
 have cell:∀{V V':World},Below (V.heap.size+1) (V.alloc (.cells #[.int .u8 u.toNat] 5)) V'→V'.cell? ⟨V.heap.size,0,none⟩=some (.int .u8 (u.toNat:Int)):=fun {V V'} hB=>by
  rw[hB.cell (p:=⟨V.heap.size,0,none⟩) (by simp)];exact qab (qac V _) 0
 have sl:∀V:World,(V.alloc (.cells #[.int .u8 u.toNat] 5)).heap.size=V.heap.size+1:=fun V=>by simp
 have bA:∀V:World,Below V.heap.size V (V.alloc (.cells #[.int .u8 u.toNat] 5)):=fun V=>bwA;refine wpAnyH_all rfl n1 fun i hi => ?_;rcases r1 i hi with rfl|rfl
 ·refine call (hc undef undef w).1 fun V hB=>⟨hS V hB,wpAnyH_all rfl n2 fun j hj => ?_⟩
  obtain rfl:=r2 j hj;refine wop o2 g3 ?_;rw[(hb V).2];show S _∧_;rw[g4];have hB2:=hB.trans ((bA V).mono hB.size);refine⟨hS _ hB2,wpAnyH_all rfl n4 fun j hj => ?_⟩;obtain rfl:=r4 j hj;exact conv (q1Z _ _ _ (by rw[q2R];exact d7)) (cell (Below.refl _ _)) ⟨hS _ hB2,h _ _ hB2⟩
 refine wop o2 g3 ?_;rw[(hb w).1];show S _∧_;rw[g4];have hB1:=bA w;refine⟨hS _ hB1,wpAnyH_all rfl n3 fun j hj => ?_⟩;rcases r3 j hj with rfl|rfl
 ·refine call (hc _ undef _).2.1 fun V hB => ?_;have hB2:=hB1.trans (hB.mono (by rw[sl];omega));rw[sl] at hB;rw[Array.setIfInBounds_comm _ _ d1.symm,q0M _ _ _ _ _ d4.symm];refine⟨hS _ hB2,wpAnyH_all rfl n4 fun j hj => ?_⟩;obtain rfl:=r4 j hj;exact conv (q1Z _ _ _ (by rw[q2R];exact d7)) (cell hB) ⟨hS _ hB2,h _ _ hB2⟩
 refine conv (q1Z _ _ _ d7) (cell (Below.refl _ _)) ⟨hS _ hB1,wpAnyH_all rfl n5 fun j hj => ?_⟩
 obtain rfl:=r5 j hj;refine call (hc _ _ _).2.2 fun V hB => ?_;have hB2:=hB1.trans (hB.mono (by rw[sl];omega));refine⟨hS _ hB2,?_⟩;rw[q0M _ _ _ _ _ d5.symm,q0M _ _ _ _ _ d4.symm,Array.setIfInBounds_comm _ _ d2.symm,Array.setIfInBounds_comm _ _ d1.symm];exact h _ _ hB2
theorem q6k (h:Below W.heap.size W V)(k:Below V.heap.size {V with drawn:=V.drawn+1} V'):Below W.heap.size W V':=h.drew.trans (k.mono h.size)
theorem q2U:∀(k x:Nat),beF x (k+1)=beF (x / 256) k++[UInt8.ofNat (x%256)]
 |0,x=>by simp[beF]
 |k+1,x=>by
  rw[beF,q2U k x,beF,List.cons_append,Nat.div_div_eq_div_mul,show 256*2^(8*k)=2^(8*(k+1)) by rw[Nat.mul_succ,Nat.pow_add];omega]
theorem qxF (l m:List UInt8):(⟨l.toArray⟩:ByteArray)++⟨m.toArray⟩=⟨(l++m).toArray⟩:=by
 apply ByteArray.ext;simp
theorem w64 (x:Int)(h : -9223372036854775808≤x∧x≤9223372036854775807):IntKind.i64.wrap x=x:=(IntKind.wrap_i64 x).trans (by omega)
theorem w8 (x:Int)(h:0≤x∧x≤255):IntKind.u8.wrap x=x:=by
 unfold IntKind.wrap;simp only[IntKind.bits,IntKind.signed,Bool.false_and];rw[if_neg (by decide)];omega
theorem u8n (x:Nat)(h:x<256):(UInt8.ofNat x).toNat=x:=by rw[UInt8.toNat_ofNat',Nat.mod_eq_of_lt h]
theorem qy0 (x:Nat):∀k,(beF x k).length=k
 |0=>rfl
 |k+1=>by rw[beF,List.length_cons,qy0 x k]
theorem qyG:∀(k n:Nat) (W:World),n≤9223372036854775807→k≤8→Calls prog 124 #[.int .i64 n,.int .i64 k] W fun e W'=>e=.returned (qxX (beF n k))∧Below W.heap.size W W'
 |0,n,W,_,_=>by
  unfold qxX beF;go_enter func124,ntmps124;go_wp2;go_ret;exact⟨rfl,bwR⟩
 |k+1,n,W,hn,hk=>by
  have c:=fun V=>qyG k (n / 256) V (by omega) (by omega);obtain⟨u,hu⟩:∃u,UInt8.ofNat (n%256)=u:=⟨_,rfl⟩
  have e1:(n:Int).tdiv 256=((n / 256:Nat):Int):=by rw[Int.tdiv_eq_ediv_of_nonneg (by omega)];omega
  have e2:(n:Int).tmod 256=((n%256:Nat):Int):=by rw[Int.tmod_eq_emod_of_nonneg (by omega)];omega
  have HU:Hid (IntKind.u8.wrap ((n:Int).tmod 256)=(u.toNat:Int)):=by show _=_;rw[←hu,u8n _ (by omega),e2,w8 _ (by omega)]
  have HQ:Hid (IntKind.i64.wrap ((n:Int).tdiv 256)=((n / 256:Nat):Int)):=by show _=_;rw[e1,w64 _ (by omega)]
  have HK:Hid (IntKind.i64.wrap (((k+1:Nat):Int)-1)=(k:Int)):=by show _=_;rw[w64 _ (by omega)];omega
  have hk0:(((k+1:Nat):Int)==0)=false:=by simp;omega
  have HB:Hid (beF n (k+1)=beF (n / 256) k++[u]):=by show _=_;rw[q2U,hu]
  have hlen:¬((beF (n / 256) k).length+1>9223372036854775807):=by rw[qy0];omega
  rw[HB.out];generalize ((k+1:Nat):Int)=k1 at *;go_enter func124,ntmps124
  go_wp2_with fail
  refine rgn (S:=fun _=>True) trivial (by kernel_rfl) ?_;intro hS;refine tkk 0 7 (.int .i64 n) (by kernel_rfl) iQ3 hS ?_;refine tk 1 8 (.int .i64 ((n / 256:Nat):Int)) rfl (by kernel_rfl) iQ3 (fun Z _ => ?y1) hS ?_
  case y1=>(go_simp;exact HQ.out)
  refine tkk 2 9 (.int .i64 k1) (by kernel_rfl) iQ3 hS ?_;refine tk 3 10 (.int .i64 k) rfl (by kernel_rfl) iQ3 (fun Z _ => ?y2) hS ?_
  case y2=>(go_simp;exact HK.out)
  refine tkk 5 12 (.int .i64 n) (by kernel_rfl) iQ3 hS ?_;refine tk 6 13 (.int .i64 ((n:Int).tmod 256)) rfl (by kernel_rfl) iQ3 (fun Z _ => ?y3) hS ?_
  case y3=>go_simp
  refine tk 7 14 (.int .u8 u.toNat) rfl (by kernel_rfl) iQ3 (fun Z _ => ?y4) hS ?_
  case y4=>(go_simp;exact HU.out)
  refine tri 4 8 9 11 15 16 124 (qxX (beF (n / 256) k)) u ⟨rfl,rfl,rfl⟩ rfl (by kernel_rfl) (fun _ _ _=>⟨by kernel_rfl,by kernel_rfl,by kernel_rfl⟩) (fun _=>⟨by kernel_rfl,by kernel_rfl⟩) c (fun _ _=>trivial) (fun V y hB => ?_);refine tk 10 17 (qxX (beF (n / 256) k++[u])) rfl (by kernel_rfl) iQ3 (fun Z _ => ?y5) hS ?_
  case y5=>(unfold qxX;go_simp;exact qxF _ [u])
  refine tkk 11 4 (qxX (beF (n / 256) k++[u])) (by kernel_rfl) iQ3 hS ?_;refine wpAnyH_done (by kernel_rfl) ?_ _;go_wp2;go_ret;exact⟨rfl,(bwR (w:=W)).drew.trans hB⟩
def ixN (n:Nat):Nat:=if n<256 then 0 else if n<65536 then 1 else if n<4294967296 then 2 else 3
theorem q1z (n:Nat):ixN n≤3:=by
 unfold ixN;split
 ·omega
 split
 ·omega
 split<;>omega
theorem qyK (W:World)(n:Int):Calls prog 122 #[.int .i64 n] W fun e W'=>e=.returned (.int .i64 ((2^ixN n.toNat:Nat):Int))∧Below W.heap.size W W':=by
 have h:(n<256∧Hid (ixN n.toNat=0))∨(¬n<256∧n<65536∧Hid (ixN n.toNat=1))∨(¬n<256∧¬n<65536∧n<4294967296∧Hid (ixN n.toNat=2))∨(¬n<256∧¬n<65536∧¬n<4294967296∧Hid (ixN n.toNat=3)):=by
  unfold ixN Hid;by_cases a:n<256
  ·exact .inl ⟨a,if_pos (by omega)⟩
  by_cases b:n<65536
  ·exact .inr (.inl ⟨a,b,by rw[if_neg (by omega),if_pos (by omega)]⟩)
  by_cases c:n<4294967296
  ·exact .inr (.inr (.inl ⟨a,b,c,by rw[if_neg (by omega),if_neg (by omega),if_pos (by omega)]⟩))
  exact .inr (.inr (.inr ⟨a,b,c,by rw[if_neg (by omega),if_neg (by omega),if_neg (by omega)]⟩))
 rcases h with ⟨a,HI⟩|⟨a,b,HI⟩|⟨a,b,c,HI⟩|⟨a,b,c,HI⟩
 all_goals
  go_enter func122,ntmps122;go_wp2;go_ret;rw[HI.out];exact⟨rfl,bwR⟩
theorem qzb {j m:Nat}(h:j≤m)(hm:m≤3):1≤2^j∧2^j≤8:=by
 rcases(show j=0∨j=1∨j=2∨j=3 by omega) with rfl|rfl|rfl|rfl<;>decide
theorem qzt (W:World)(m:Nat)(hm:m≤3):Calls prog 123 #[.int .i64 ((2^m:Nat):Int)] W fun e W'=>e=.returned (.int .i64 m)∧Below W.heap.size W W':=by
 obtain⟨kv,HK⟩:∃kv:Nat,Hid (2^m=kv):=⟨_,show _=_ from rfl⟩
 rw[HK.out];go_enter func123,ntmps123;go_wp2
 go_loopg [3,4] m (fun g zi zw wr=>∃j wv:Nat,zi=.int .i64 j∧zw=.int .i64 wv∧wr=W∧Hid (j+g=m)∧Hid (wv=2^j))
 case atStart=>exact⟨0,1,rfl,rfl,rfl,by show _=_;omega,rfl⟩
 case round =>
  obtain⟨j,wv,rfl,rfl,rfl,hg,hw⟩:=hrel;have hj:j≤3:=by have:=hg.out;omega
  have h8:wv≤8:=by rw[hw.out];exact(qzb (Nat.le_refl j) hj).2
  cases gk with
  |zero =>
   have hlt:¬(wv:Int)<(kv:Int):=by
    have e:j=m:=hg.out;have:=hw.out;have:=HK.out;subst e;omega
   have HE:Hid (j=m):=hg.out;go_wp2;go_ret;rw[HE.out];exact⟨rfl,bwR⟩
  |succ g =>
   have hlt:(wv:Int)<(kv:Int):=by
    have e:=hg.out;have:=Nat.pow_lt_pow_right (a:=2) (by decide) (show j<m by omega);rw[HK.out,←hw.out] at this;omega
   go_wp2;go_roundg g
   case measure=>omega
   case rel=>exact⟨j+1,wv*2,by go_num,by go_num,rfl,by show _=_;have:=hg.out;omega,by show _=_;rw[hw.out,Nat.pow_succ]⟩
theorem qyI (w:World)(v:Int)(b:UInt8)(hv:v=b.toNat):(convert 28 9 (.slice (some ⟨w.heap.size,0,none⟩) 1 1)).run prog (w.alloc (.cells #[.int .u8 v] 5))=.ok (.string ⟨#[b]⟩) (w.alloc (.cells #[.int .u8 v] 5)):=by
 subst hv;exact q5s _ _ b (qab (qac w _) 0)
theorem q6Y (s n:Nat)(h:¬n<24):qaj s n=UInt8.ofNat (32*s+24+ixN n)::beF n (2^ixN n):=by
 unfold qaj ixN;rw[if_neg h];by_cases a:n<256
 ·rw[if_pos (by omega),if_pos a]
 rw[if_neg (by omega),if_neg a];by_cases b:n<65536
 ·rw[if_pos (by omega),if_pos b]
 rw[if_neg (by omega),if_neg b];by_cases c:n<4294967296
 ·rw[if_pos (by omega),if_pos c]
 rw[if_neg (by omega),if_neg c]
theorem qyk (W:World)(s n:Nat)(hs:s≤7)(hn:n≤9223372036854775807):Calls prog 119 #[.int .i64 s,.int .i64 n] W fun e W'=>e=.returned (qxX (qaj s n))∧Below W.heap.size W W':=by
 by_cases h24:n<24
 ·obtain⟨u,hu⟩:∃u,UInt8.ofNat (32*s+n)=u:=⟨_,rfl⟩
  have HE:Hid (qaj s n=[u]):=by show _=_;unfold qaj;rw[if_pos h24,hu]
  rw[HE.out];have hc:=qyI W ((s:Int)*32+n) u (by rw[←hu,u8n _ (by omega)];omega);have hlt:(n:Int)<24:=by omega
  go_enter func119,ntmps119;go_wp2;go_ret;exact⟨rfl,bwA⟩
 obtain⟨m,hm⟩:∃m,ixN n=m:=⟨_,rfl⟩
 have hm3:=hm▸q1z n;obtain⟨u,hu⟩:∃u,UInt8.ofNat (32*s+24+m)=u:=⟨_,rfl⟩
 have HU:Hid ((u.toNat:Int)=(s:Int)*32+(24+m:Nat)):=by show _=_;rw[←hu,u8n _ (by omega)];omega
 have HE:Hid (qaj s n=[u]++beF n (2^m)):=by show _=_;rw[q6Y s n h24,hm,hu];rfl
 rw[HE.out];have cW:=fun V=>qyK V (n:Int);rw[Int.toNat_natCast,hm] at cW;have cB:=fun V=>qyG (2^m) n V hn (qzb (Nat.le_refl m) hm3).2;have hlen:¬(1+(beF n (2^m)).length>9223372036854775807):=by rw[qy0];have:=(qzb (Nat.le_refl m) hm3).2;omega
 obtain⟨kv,HK⟩:∃kv:Nat,Hid (2^m=kv):=⟨_,show _=_ from rfl⟩
 rw[HK.out] at cW cB hlen ⊢;have hlt:¬(n:Int)<24:=by omega
 go_enter func119,ntmps119
 go_wp2_with (first|(go_at_call 122;refine(cW _).mono ?_;rintro e w2 ⟨rfl,hB2⟩))
 go_loopg [6,7] m (fun g zi zw wr=>∃j wv:Nat,zi=.int .i64 ((24+j:Nat):Int)∧zw=.int .i64 wv∧wr=w2∧Hid (j+g=m)∧Hid (wv=2^j))
 case atStart=>exact⟨0,1,rfl,rfl,rfl,by show _=_;omega,rfl⟩
 case round =>
  obtain⟨j,wv,rfl,rfl,rfl,hg,hw⟩:=hrel;have hj:j≤3:=by have:=hg.out;omega
  have h8:wv≤8:=by rw[hw.out];exact(qzb (Nat.le_refl j) hj).2
  cases gk with
  |zero =>
   obtain rfl:j=m:=hg.out;have hlt2:¬(wv:Int)<(kv:Int):=by
    have:=hw.out;have:=HK.out;omega
   have HW1:Hid (IntKind.i64.wrap ((s:Int)*32)=(s:Int)*32):=w64 _ (by omega);have HW2:Hid (IntKind.i64.wrap ((s:Int)*32+(24+j:Nat))=u.toNat):=by show _=_;rw[HU.out];exact w64 _ (by omega)
   have HW3:Hid (IntKind.u8.wrap (u.toNat:Int)=u.toNat):=w8 _ (by have:=u.toNat_lt;omega)
   go_wp2_with fail
   refine rgn (S:=fun _=>True) trivial (by kernel_rfl) ?_;intro hS;refine tkk 0 26 (.int .i64 s) (by kernel_rfl) iQ3 hS ?_;refine tk 1 27 (.int .i64 ((s:Int)*32)) rfl (by kernel_rfl) iQ3 (fun Z _ => ?y1) hS ?_
   case y1=>(go_simp<;>exact HW1.out)
   refine tkk 2 28 (.int .i64 ((24+j:Nat):Int)) (by kernel_rfl) iQ3 hS ?_;refine tk 3 29 (.int .i64 u.toNat) rfl (by kernel_rfl) iQ3 (fun Z _ => ?y2) hS ?_
   case y2=>(go_simp<;>exact HW2.out)
   refine tk 4 30 (.int .u8 u.toNat) rfl (by kernel_rfl) iQ3 (fun Z _ => ?y3) hS ?_
   case y3=>(go_simp<;>exact HW3.out)
   refine tkk 7 33 (.int .i64 n) (by kernel_rfl) iQ3 hS ?_;refine tkk 8 34 (.int .i64 kv) (by kernel_rfl) iQ3 hS ?_;refine tri 9 5 6 35 31 32 124 (qxX (beF n kv)) u ⟨rfl,rfl,rfl⟩ rfl (by kernel_rfl) (fun _ _ _=>⟨by kernel_rfl,by kernel_rfl,by kernel_rfl⟩) (fun _=>⟨by kernel_rfl,by kernel_rfl⟩) cB (fun _ _=>trivial) (fun V y hB => ?_);refine tk 10 36 (qxX ([u]++beF n kv)) rfl (by kernel_rfl) iQ3 (fun Z _ => ?y5) hS ?_
   case y5=>(unfold qxX;go_simp;exact qxF [u] _)
   refine tkk 11 4 (qxX ([u]++beF n kv)) (by kernel_rfl) iQ3 hS ?_;refine wpAnyH_done (by kernel_rfl) ?_ _;go_wp2;go_ret;exact⟨rfl,q6k hB2 hB⟩
  |succ g =>
   have hlt2:(wv:Int)<(kv:Int):=by
    have e:=hg.out;have:=Nat.pow_lt_pow_right (a:=2) (by decide) (show j<m by omega);rw[HK.out,←hw.out] at this;omega
   go_wp2;go_roundg g
   case measure=>omega
   case rel=>exact⟨j+1,wv*2,by go_num,by go_num,rfl,by show _=_;have:=hg.out;omega,by show _=_;rw[hw.out,Nat.pow_succ]⟩
structure qyP (W:World)(A:Array Value)(V:World):Prop where
 box:V.heap[W.heap.size]? = some (.cells A 93)
 below:Below W.heap.size W V
theorem qyP.next (h:qyP W A V)(hb:Below V.heap.size V V'):qyP W A V' :=
 ⟨(hb.block _ (ltA h.box)).trans h.box,h.below.trans (hb.mono h.below.size)⟩
theorem qyP.drew (h:qyP W A V):qyP W A V.drew:=⟨h.box,h.below.drew⟩
theorem qy6 (W:World)(A:Array Value):qyP W A (W.alloc (.cells A 93)):=⟨qac _ _,bwA⟩
theorem qyC {n:Nat}{xs:List Value}(h:qb1 V 93 5 F u n xs):n≤9223372036854775807∧∃a cap,u=.slice a n cap∧∀(i:Nat) (A:Array Value),i<n→qzH xs i A→∃g,a=some ⟨g,0,none⟩∧F g∧∀V':World,V'.heap[g]? = V.heap[g]?→∀j,j<5→V'.cell? ⟨g,i*5+j,none⟩=A[j]?:=by
 obtain⟨h1,h2⟩:=h;rcases h2 with ⟨rfl,rfl⟩|⟨g,cap,cur,rfl,hF,hg,h3,h4,h5,h6⟩
 ·exact⟨by omega,_,_,rfl,fun i A hi=>absurd hi (by omega)⟩
 refine⟨Nat.le_trans h3 (Nat.le_trans h4 (by decide)),_,_,rfl,fun i A hi hs=>⟨g,rfl,hF,fun V' hV j hj => ?_⟩⟩;rw[qab (hV.trans hg)];unfold qzH at hs;rw[←Array.getElem?_toList,←Array.getElem?_toList,←hs,List.getElem?_take_of_lt hj,List.getElem?_drop,←h6,List.getElem?_take_of_lt (by omega),Nat.mul_comm]
theorem qzZ {es:List (Lit×DataW Unit)}(h:qb1 V 9 1 F u es.length (es.map q6v)):∃a cap,u=.slice a es.length cap∧∀(i:Nat) (l:List UInt8) (d:DataW Unit),es[i]? = some (.string l,d)→∃g,a=some ⟨g,0,none⟩∧F g∧∀V':World,V'.heap[g]? = V.heap[g]?→V'.cell? ⟨g,i,none⟩=some (.string ⟨l.toArray⟩):=by
 obtain⟨h1,h2⟩:=h;rcases h2 with ⟨rfl,h0⟩|⟨g,cap,cur,rfl,hF,hg,h3,h4,h5,h6⟩
 ·exact⟨none,0,by rw[h0],fun i l d hx=>by have:=ltL hx;omega⟩
 refine⟨_,_,rfl,fun i l d hx=>⟨g,rfl,hF,fun V' hV => ?_⟩⟩;have hj:=ltL hx;rw[qab (hV.trans hg),←Array.getElem?_toList];have h7:(cur.toList.take (es.length*1))[i]? = some (.string ⟨l.toArray⟩):=by rw[h6,List.getElem?_map,hx];rfl
 rwa [List.getElem?_take_of_lt (by omega)] at h7
theorem qyr {α:Type}(f:α→List UInt8)(l:List α)(i:Nat)(d:α)(h:l[i]? = some d):(l.take (i+1)).flatMap f=(l.take i).flatMap f++f d:=by
 rw[List.take_add_one,h];simp
theorem qyx {α:Type}(f:α→List UInt8)(l:List α)(i:Nat):((l.take i).flatMap f).length≤(l.flatMap f).length:=by
 conv=>rhs;rw[←List.take_append_drop i l]
 rw[List.flatMap_append,List.length_append];omega
def WrS (l:List UInt8)(W:World)(e:Ending)(W':World):Prop:=e=.returned (qxX l)∧Below W.heap.size W W'
def qc5 {α:Type}(T:α→List UInt8):List α→List UInt8
 |[]=>[]
 |d::ds=>T d++ds.flatMap fun e=>44::T e
theorem qhq {α:Type}(T:α→List UInt8)(l:List α)(d:α)(hd:l[0]? = some d):qc5 T (l.take 1)=T d:=by
 cases l with
 |nil=>simp at hd
 |cons a l=>simp at hd;subst hd;simp[qc5]
theorem qjP {α:Type}(T:α→List UInt8)(l:List α)(k:Nat)(hk:0<k)(d:α)(hd:l[k]? = some d):qc5 T (l.take (k+1))=(qc5 T (l.take k)++[44])++T d:=by
 cases l with
 |nil=>simp at hd
 |cons a l =>
  cases k with
  |zero=>omega
  |succ k =>
   rw[List.getElem?_cons_succ] at hd;rw[List.take_succ_cons,List.take_succ_cons];unfold qc5;rw[List.take_add_one,hd];simp
theorem qfx {α:Type}(T:α→List UInt8)(l:List α)(k:Nat):(qc5 T (l.take k)).length≤(qc5 T l).length:=by
 cases l with
 |nil=>simp
 |cons a l =>
  cases k with
  |zero=>simp[qc5]
  |succ k =>
   rw[List.take_succ_cons];unfold qc5;rw[List.length_append,List.length_append];have h2:(l.flatMap fun e=>44::T e).length=((l.take k).flatMap fun e=>44::T e).length+((l.drop k).flatMap fun e=>44::T e).length:=by
    rw[←List.length_append,←List.flatMap_append,List.take_append_drop]
   omega
def qef (W:World)(base:Nat)(x:Value)(ys:List UInt8):Prop:=∀(V:World) (v:Value) (bs:List UInt8),Below base W V→Own V base v bs→bs.length+ys.length≤999999999→Calls prog 109 #[v,x] V fun e W'=>∃v',e=.returned v'∧Own W' base v' (bs++ys)∧Below base V W'
theorem qnf (g:Nat)(l:List UInt8)(hl:l≠[]):qd5 (g+1) l=qmw (decodeL l).1++qd5 g (l.drop (decodeL l).2):=by
 cases l with
 |nil=>exact absurd rfl hl
 |cons b t=>rfl
theorem qil (W:World)(base:Nat)(v:Value)(s:ByteArray)(bs:List UInt8)(hl:bs.length+(jsT s.data.toList).length≤999999999)(h:Own W base v bs):Calls prog 160 #[v,.string s] W fun e W'=>∃v',e=.returned v'∧Own W' base v' (bs++jsT s.data.toList)∧Below base W W'∧KpU W W':=by
 obtain⟨i0,hi,hz0,hz1,hz2⟩:=info_parts Tryz.infoU8;obtain⟨a,n,c,rfl⟩:=h.2.2;have HO:=qaa h;have hll:s.data.toList.length=s.size:=Array.length_toList;have HJ:Hid (bs.length+2+(qd5 s.size s.data.toList).length≤999999999∧jsT s.data.toList=[34]++qd5 s.size s.data.toList++[34]):=by
  unfold jsT at hl;rw[hll] at hl;refine⟨by simp only[List.length_append,List.length_cons,List.length_nil] at hl;omega,?_⟩;unfold jsT;rw[hll]
 have hbs:bs.length≤999999999:=by omega
 go_enter func160,ntmps160
 go_wp2_with (first
  |(at_builtin;refine wpList_append_own _ rfl _ _ 28 rfl base 5 i0 (.int .u8 0) 1 1 underlying28 hi hz0 hz1 hz2 rfl (by decide) _ _ _ rfl (HO.out.1.alloc _) ⟨W.heap.size,0,none⟩ 1 1 [.int .u8 34] rfl rfl (qag _ _ _) (fun u hu=>by simp at hu;subst hu;rfl) (by unfold maxLen;omega) (by omega) (by simp;have:=HO.out.2.1;omega) ?_;intro v' w2 hown' hgrow' hnil';obtain⟨gw2,capw2,rfl⟩:=ownsRow_succ hown';have HB2:=qaa (qaz ((Below.refl _ _).alloc HO.out.2.1 _) (HO.out.1.alloc _) hgrow' (by simp;have:=HO.out.2.1;omega));have HO2:Hid (Own w2 base (.slice (some ⟨gw2,0,none⟩) _ capw2) (bs++[34])):=⟨qbG hown' rfl,Nat.le_trans HO.out.2.1 HB2.out.size,_,_,_,rfl⟩;have HKP:=qaa ((qed W _).trans (qek (HO.out.1.alloc _) hgrow'))))
 have HT:Hid (qgU base W w2.heap.size s 0 (.slice (some ⟨gw2,0,none⟩) (bs.length+1) capw2) (bs++[34]) (w2.iter s 0)):=by
  refine⟨qgt HO2.out bwA,World.iter_heap _ _ _,HB2.out.alloc HO2.out.2.1 _,HO2.out.2.1,HKP.out.trans (qed _ _)⟩
 generalize w2.iter s 0=W0 at *;generalize w2.heap.size=N at *
 go_loopg [0] s.size (fun g y wr=>∃(i:Nat) (a3:Option Addr) (n3 c3:Nat) (cur:List UInt8),y=.slice a3 n3 c3∧Hid (i≤s.size)∧Hid (s.size≤i+g)∧Hid (qgU base W N s i (.slice a3 n3 c3) cur wr)∧Hid ((bs++[34])++qd5 s.size s.data.toList=cur++qd5 g (s.data.toList.drop i)))
 case atStart=>exact⟨0,_,_,_,_,rfl,Nat.zero_le _,by show _≤_;omega,HT,by show _=_;rw[List.drop_zero]⟩
 case round =>
  obtain⟨i,a3,n3,c3,cur,rfl,his,hig,HT,HL⟩:=hrel;have HCL:Hid (cur.length≤999999998):=by
   have:=congrArg List.length HL.out;have h2:=HJ.out.1;simp only[List.length_append,List.length_cons,List.length_nil] at this;show _≤_;omega
  by_cases h1:i=s.size
  ·have HF:Hid ((bs++[34])++qd5 s.size s.data.toList=cur):=by
    have h:=HL.out;rw[h1,←hll,List.drop_length,qoY,List.append_nil] at h;rw[←hll];exact h
   have hnx:=fun ty=>qeb (P:=prog) wr N s i ty HT.out.it (by omega);have hcl:=HCL.out
   go_wp2_with (first
    |(at_builtin;refine wpList_append_own _ rfl _ _ 28 rfl base 5 i0 (.int .u8 0) 1 1 underlying28 hi hz0 hz1 hz2 rfl (by decide) _ _ _ rfl (HT.out.own.1.alloc _) ⟨wr.heap.size,0,none⟩ 1 1 [.int .u8 34] rfl rfl (qag _ _ _) (fun u hu=>by simp at hu;subst hu;rfl) (by unfold maxLen;omega) (by omega) (by simp;have:=HT.out.own.2.1;omega) ?_;intro v' w3 hown' hgrow' hnil';obtain⟨gw3,capw3,rfl⟩:=ownsRow_succ hown';have HT3:=qaa (HT.out.app (l:=[34]) hown' hgrow')))
   go_ret;have he:bs++jsT s.data.toList=cur++[34]:=by rw[HJ.out.2,←HF.out];simp
   rw[he];exact⟨_,rfl,HT3.out.own,HT3.out.below,HT3.out.kp⟩
  have hn:i<s.size:=by have:=his.out;omega
  obtain⟨g,rfl⟩:∃g,gk=g+1:=⟨gk-1,by have:=hig.out;omega⟩
  have hnx:=fun ty=>qgz (P:=prog) wr N s i ty HT.out.it hn;obtain⟨r,hr⟩:∃r,(Utf8.decode s i).1=r:=⟨_,rfl⟩
  obtain⟨k,hk⟩:∃k,(Utf8.decode s i).2=k:=⟨_,rfl⟩
  rw[hr,hk] at hnx;have hrle:r≤1114111:=by rw[←hr];exact Lib.rune_le s i
  have hde:=Lib.decodeL_drop s i;have hne:s.data.toList.drop i≠[]:=by
   intro h;have:=congrArg List.length h;rw[List.length_drop] at this;simp at this;omega
  have HC:Hid (qd5 (g+1) (s.data.toList.drop i)=qmw r++qd5 g (s.data.toList.drop (i+k))):=by
   show _=_;rw[qnf _ _ hne,hde];rw[show(Utf8.decode s i).1=r from hr,show(Utf8.decode s i).2=k from hk,List.drop_drop]
  have hk1:1≤k:=by have:=Lib.decodeL_width (s.data.toList.drop i);rw[hde,hk] at this;exact this
  have hkl:k≤s.size-i:=by
   have:=Lib.decodeL_le (s.data.toList.drop i) hne;rw[hde,hk,List.length_drop] at this;omega
  have HT2:Hid (qgU base W N s (i+k) (.slice a3 n3 c3) cur (wr.putObj N (.stringIter s (i+k)))):=HT.out.next _
  have HL2:Hid ((bs++[34])++qd5 s.size s.data.toList=(cur++qmw r)++qd5 g (s.data.toList.drop (i+k))):=by
   show _=_;rw[HL.out,HC.out,List.append_assoc]
  have HEL:Hid (cur.length+(qmw r).length≤999999998):=by
   have:=congrArg List.length HL2.out;have h2:=HJ.out.1;simp only[List.length_append,List.length_cons,List.length_nil] at this;show _≤_;omega
  generalize wr.putObj N (.stringIter s (i+k))=W2 at *;have hcl:=HCL.out;by_cases h34:r=34∨r=92
  ·rcases h34 with rfl|rfl
   ·have HE:Hid (qmw 34=[92,34]):=rfl;have hel:=HEL.out;have hcl:=HCL.out
    go_wp2_with (first
     |(at_builtin;refine wpList_append_own _ rfl _ _ 28 rfl base 5 i0 (.int .u8 0) 1 1 underlying28 hi hz0 hz1 hz2 rfl (by decide) _ _ _ rfl (HT2.out.own.1.alloc _) ⟨W2.heap.size,0,none⟩ 2 2 [.int .u8 92,.int .u8 34] rfl rfl (qag _ _ _) (fun u hu=>by simp at hu;rcases hu with rfl|rfl<;>rfl) (by unfold maxLen;omega) (by omega) (by simp;have:=HT2.out.own.2.1;omega) ?_;intro v' w3 hown' hgrow' hnil';obtain⟨gw3,capw3,rfl⟩:=ownsRow_succ hown';have HT3:Hid (qgU base W N s (i+k) (.slice (some ⟨gw3,0,none⟩) (cur.length+2) capw3) (cur++[92,34]) w3):=HT2.out.app (l:=[92,34]) hown' hgrow'))
    go_roundg g
    case measure=>omega
    case rel=>exact⟨i+k,_,_,_,_,rfl,by show _≤_;omega,by show _≤_;have:=hig.out;omega,HT3,by have h:=HL2.out;rw[HE.out] at h;exact h⟩
   have HE:Hid (qmw 92=[92,92]):=rfl;have hel:=HEL.out;have hcl:=HCL.out
   go_wp2_with (first
    |(at_builtin;refine wpList_append_own _ rfl _ _ 28 rfl base 5 i0 (.int .u8 0) 1 1 underlying28 hi hz0 hz1 hz2 rfl (by decide) _ _ _ rfl (HT2.out.own.1.alloc _) ⟨W2.heap.size,0,none⟩ 2 2 [.int .u8 92,.int .u8 92] rfl rfl (qag _ _ _) (fun u hu=>by simp at hu;rcases hu with rfl|rfl<;>rfl) (by unfold maxLen;omega) (by omega) (by simp;have:=HT2.out.own.2.1;omega) ?_;intro v' w3 hown' hgrow' hnil';obtain⟨gw3,capw3,rfl⟩:=ownsRow_succ hown';have HT3:Hid (qgU base W N s (i+k) (.slice (some ⟨gw3,0,none⟩) (cur.length+2) capw3) (cur++[92,92]) w3):=HT2.out.app (l:=[92,92]) hown' hgrow'))
   go_roundg g
   case measure=>omega
   case rel=>exact⟨i+k,_,_,_,_,rfl,by show _≤_;omega,by show _≤_;have:=hig.out;omega,HT3,by have h:=HL2.out;rw[HE.out] at h;exact h⟩
  have hb1:((r:Int)==34)=false:=by simp;omega
  have hb2:((r:Int)==92)=false:=by simp;omega
  by_cases h32:r<32
  ·have HE:Hid (qmw r=[92,117,48,48]++[qfU (r / 16),qfU (r%16)]):=by show _=_;unfold qmw;rw[if_neg h34,if_pos h32];rfl
   have h32':(r:Int)<32:=by omega
   have hsz:(⟨([92,117,48,48]:List UInt8).toArray⟩:ByteArray).size=4:=rfl
   go_wp2_with (first
    |(at_builtin;refine wpList_append_own_string _ rfl _ _ 28 9 rfl base 5 i0 underlying28 underlying9 hi hz0 hz1 hz2 _ _ _ rfl HT2.out.own.1 ⟨[92,117,48,48].toArray⟩ rfl (by rw[hsz];unfold maxLen;omega) (by rw[hsz];omega) HT2.out.own.2.1 ?_;intro v' w5 hown' hgrow5 hnil5;have HT3:=qaa (HT2.out.appS hown' hgrow5);obtain⟨a4,n4,c4,rfl⟩:=HT3.out.own.2.2))
   have hS:(fun _:World=>True) {w5 with drawn:=w5.drawn+1}:=trivial;have HT4:=qaa HT3.out.drew;have hc4:(cur++[92,117,48,48]).length=cur.length+4:=by simp
   have hel:cur.length+6≤999999998:=by have h:=HEL.out;rw[HE.out] at h;simpa using h
   refine wp_region_held (S:=fun _=>True) (by kernel_rfl) ?_;refine tkH 0 35 (.slice a4 n4 c4) rfl (by kernel_rfl) (fun _ _ _ h=>h) (fun Z hZ=>by kernel_rfl) hS ?_;refine tkH 1 36 (.int .i32 r) rfl (by kernel_rfl) (fun _ _ _ h=>h) (fun Z hZ=>by kernel_rfl) hS ?_;refine tkH 2 37 (.int .i32 ((r / 16:Nat):Int)) rfl (by kernel_rfl) (fun _ _ _ h=>h) (fun Z hZ => ?y2) hS ?_
   case y2=>(go_simp)
   refine tkH 3 38 (qav (qfU (r / 16))) rfl (by kernel_rfl) (fun _ _ _ h=>h) (fun Z hZ => ?y3) hS ?_
   case y3=>exact qlX 9 _ _ rfl rfl (by kernel_rfl) (qs3 (r / 16) (by omega) Z)
   refine tkH 4 39 (.int .i32 r) rfl (by kernel_rfl) (fun _ _ _ h=>h) (fun Z hZ=>by kernel_rfl) hS ?_;refine tkH 5 40 (.int .i32 ((r%16:Nat):Int)) rfl (by kernel_rfl) (fun _ _ _ h=>h) (fun Z hZ => ?y5) hS ?_
   case y5=>(have z2:=qu2 r h32;go_simp)
   refine tkH 6 41 (qav (qfU (r%16))) rfl (by kernel_rfl) (fun _ _ _ h=>h) (fun Z hZ => ?y6) hS ?_
   case y6=>exact qlX 9 _ _ rfl rfl (by kernel_rfl) (qs3 (r%16) (by omega) Z)
   refine rdS 7 rfl (by kernel_rfl) (fun K hK => ?_);refine ifw (by kernel_rfl) ?_;refine qkT (.tmp 38) (.tmp 41) rfl (qfU (r / 16)) (qfU (r%16)) (by kernel_rfl) (by kernel_rfl) ?_;refine hK.out _ _ trivial (fun _ => ?_);refine rdS 8 rfl (by kernel_rfl) (fun K hK => ?_);refine ifw (by kernel_rfl) ?_;refine qeN (.tmp 35) (.tmp 42) 28 rfl base 5 i0 (.int .u8 0) 1 1 underlying28 hi hz0 hz1 hz2 rfl (by decide) (.slice a4 n4 c4) _ _ (by kernel_rfl) (HT4.out.own.1.alloc _) ⟨w5.heap.size,0,none⟩ 2 2 [qav (qfU (r / 16)),qav (qfU (r%16))] (by kernel_rfl) rfl (qag _ _ _) (fun u hu=>by simp at hu;rcases hu with rfl|rfl<;>rfl) (by rw[hc4];unfold maxLen;omega) (by rw[hc4];omega) (by have:=HT4.out.own.2.1;rw[World.size_alloc];exact Nat.le_succ_of_le this) ?_;intro v' w6 hown hgr _;obtain⟨g6,cap6,rfl⟩:=ownsRow_succ hown;have HT6:Hid (qgU base W N s (i+k) (.slice (some ⟨g6,0,none⟩) ((cur++[92,117,48,48]).length+2) cap6) ((cur++[92,117,48,48])++[qfU (r / 16),qfU (r%16)]) w6):=HT4.out.app (l:=[qfU (r / 16),qfU (r%16)]) hown hgr;refine hK.out _ _ trivial (fun _ => ?_);refine tkH 9 0 (.slice (some ⟨g6,0,none⟩) ((cur++[92,117,48,48]).length+2) cap6) rfl (by kernel_rfl) (fun _ _ _ h=>h) (fun Z hZ=>by kernel_rfl) trivial ?_;refine wpAnyH_done (by kernel_rfl) ?_ _;go_simp;go_wp2;go_roundg g
   case measure=>omega
   case rel=>exact⟨i+k,_,_,_,_,rfl,by show _≤_;omega,by show _≤_;have:=hig.out;omega,by rw[hc4] at HT6;exact HT6,by have h:=HL2.out;rw[HE.out,←List.append_assoc] at h;exact h⟩
  have HE:Hid (qmw r=qcD r):=by show _=_;unfold qmw;rw[if_neg h34,if_neg h32]
  have h32':¬(r:Int)<32:=by omega
  have hrl:=qcg (r:Int);have cA:=Any.utf8_AppendRune_plain Tryz.lays242 (by kernel_rfl) base (.slice a3 n3 c3) cur.length (cur.map qav) (r:Int) (by omega) (by omega) W2 HT2.out.own.1 (by omega) HT2.out.own.2.1
  go_wp2_with (first
   |(go_at_call 201;refine cA.mono ?_;rintro e w3 ⟨v3,rfl,hown,o,hgrow⟩;rw[qhx,List.length_map] at hown;have HT3:=qaa (HT2.out.app (l:=qcD r) hown hgrow);obtain⟨a4,n4,c4,rfl⟩:=HT3.out.own.2.2))
  go_roundg g
  case measure=>omega
  case rel=>exact⟨i+k,_,_,_,_,rfl,by show _≤_;omega,by show _≤_;have:=hig.out;omega,HT3,by have h:=HL2.out;rw[HE.out] at h;exact h⟩
theorem q0V (W:World)(kd v:Int)(b:UInt8)(hk:(kd=0∧v=246)∨(kd=1∧v=244)∨(kd=2∧v=245))(hb:(b.toNat:Int)=v):Calls prog 73 #[.agg (thA kd 0 ⟨#[]⟩ qxE qxE)] W (WrS [b] W):=by
 have hc:=qyI (W.alloc (.cells (thA kd 0 ⟨#[]⟩ qxE qxE) 93)) v b hb.symm;rw[show(W.alloc (.cells (thA kd 0 ⟨#[]⟩ qxE qxE) 93)).heap.size=W.heap.size+1 by simp] at hc;unfold thA qxE at *;rcases hk with ⟨rfl,rfl⟩|⟨rfl,rfl⟩|⟨rfl,rfl⟩
 all_goals
  go_enter func73,ntmps73;go_wp2;go_ret;exact⟨rfl,(bwA).alloc (by simp) _⟩
theorem q6d (W:World)(z:Int)(h1 : -9223372036854775808≤z)(h2:z≤9223372036854775807):Calls prog 73 #[.agg (thA 3 z ⟨#[]⟩ qxE qxE)] W (WrS (qhB z) W):=by
 obtain⟨R,HR⟩:∃R,Hid (qhB z=R):=⟨_,show _=_ from rfl⟩
 have HX:Hid (qyP W (thA 3 z ⟨#[]⟩ qxE qxE) (W.alloc (.cells (thA 3 z ⟨#[]⟩ qxE qxE) 93))):=qy6 _ _;by_cases hz:z<0
 ·have c:∀V,Calls prog 119 #[.int .i64 1,.int .i64 (-1-z)] V (WrS R V):=fun V=>by
   have h:=qyk V 1 (-1-z).toNat (by decide) (by omega);rw[show(((-1-z).toNat:Nat):Int) = -1-z by omega] at h;rw[←HR.out];unfold qhB;rw[if_pos hz];exact h
  rw[HR.out];unfold thA qxE at *;go_enter func73,ntmps73
  go_wp2_with (first|(go_at_call 119;refine(c _).mono ?_;rintro e w2 ⟨rfl,hB2⟩))
  go_ret;exact⟨rfl,(HX.out.next hB2).below⟩
 have c:∀V,Calls prog 119 #[.int .i64 0,.int .i64 z] V (WrS R V):=fun V=>by
  have h:=qyk V 0 z.toNat (by decide) (by omega);rw[show((z.toNat:Nat):Int)=z by omega] at h;rw[←HR.out];unfold qhB;rw[if_neg hz];exact h
 rw[HR.out];unfold thA qxE at *;go_enter func73,ntmps73
 go_wp2_with (first|(go_at_call 119;refine(c _).mono ?_;rintro e w2 ⟨rfl,hB2⟩))
 go_ret;exact⟨rfl,(HX.out.next hB2).below⟩
theorem q44 (W:World)(l:List UInt8)(hl:l.length≤999999999):Calls prog 73 #[.agg (thA 4 0 ⟨l.toArray⟩ qxE qxE)] W (WrS (qaj 3 l.length++l) W)∧Calls prog 73 #[.agg (thA 5 0 ⟨l.toArray⟩ qxE qxE)] W (WrS (qaj 2 l.length++l) W):=by
 have HX:∀kd,Hid (qyP W (thA kd 0 ⟨l.toArray⟩ qxE qxE) (W.alloc (.cells (thA kd 0 ⟨l.toArray⟩ qxE qxE) 93))):=fun kd=>qy6 _ _;have c:=fun V s (hs:s≤7)=>qyk V s l.length hs (by omega);have hlen:∀s,¬((qaj s l.length).length+l.length>9223372036854775807):=fun s=>by
  have:(qaj s l.length).length≤9:=by
   unfold qaj
   repeat' split
   all_goals simp[qy0]
  omega
 constructor
 ·replace HX:=HX 4
  replace c:=fun V=>c V 3 (by decide)
  replace hlen:=hlen 3
  unfold thA qxE at *;go_enter func73,ntmps73
  go_wp2_with fail
  generalize W.alloc (.cells #[.int .i64 4,.int .i64 0,.string ⟨l.toArray⟩,.slice none 0 0,.slice none 0 0] 93)=V0 at *;refine rgn (S:=qyP W #[.int .i64 4,.int .i64 0,.string ⟨l.toArray⟩,.slice none 0 0,.slice none 0 0]) HX.out.drew (by kernel_rfl) ?_;intro hS;refine tkk 0 35 (.pointer (some ⟨W.heap.size,2,none⟩)) (by kernel_rfl) iQ3 hS ?_;refine tk 1 36 (.string ⟨l.toArray⟩) rfl (by kernel_rfl) iQ3 (fun Z hZ => ?y1) hS ?_
  case y1=>(have hz:=qab hZ.box 2;go_simp)
  refine tk 2 37 (.int .i64 l.length) rfl (by kernel_rfl) iQ3 (fun Z hZ => ?y2) hS ?_
  case y2=>go_simp
  refine tkk 4 39 (.pointer (some ⟨W.heap.size,2,none⟩)) (by kernel_rfl) iQ3 hS ?_;refine tk 5 40 (.string ⟨l.toArray⟩) rfl (by kernel_rfl) iQ3 (fun Z hZ => ?y3) hS ?_
  case y3=>(have hz:=qab hZ.box 2;go_simp)
  refine rdH 3 rfl (by kernel_rfl) (fun K hK => ?_);go_simp;refine(c _).mono ?_;rintro e w2 ⟨rfl,hB2⟩;have hS2:=hS.next hB2
  refine hK.out _ _ hS2 (fun _ => ?_);refine tk 6 41 (qxX (qaj 3 l.length++l)) rfl (by kernel_rfl) iQ3 (fun Z hZ => ?y4) hS2 ?_
  case y4=>(unfold qxX;go_simp;exact qxF _ _)
  refine tkk 7 2 (qxX (qaj 3 l.length++l)) (by kernel_rfl) iQ3 hS2 ?_;refine wpAnyH_done (by kernel_rfl) ?_ _;go_wp2;go_ret;exact⟨rfl,hS2.below⟩
 replace HX:=HX 5
 replace c:=fun V=>c V 2 (by decide)
 replace hlen:=hlen 2
 unfold thA qxE at *;go_enter func73,ntmps73
 go_wp2_with fail
 generalize W.alloc (.cells #[.int .i64 5,.int .i64 0,.string ⟨l.toArray⟩,.slice none 0 0,.slice none 0 0] 93)=V0 at *;refine rgn (S:=qyP W #[.int .i64 5,.int .i64 0,.string ⟨l.toArray⟩,.slice none 0 0,.slice none 0 0]) HX.out.drew (by kernel_rfl) ?_;intro hS;refine tkk 0 44 (.pointer (some ⟨W.heap.size,2,none⟩)) (by kernel_rfl) iQ3 hS ?_;refine tk 1 45 (.string ⟨l.toArray⟩) rfl (by kernel_rfl) iQ3 (fun Z hZ => ?y1) hS ?_
 case y1=>(have hz:=qab hZ.box 2;go_simp)
 refine tk 2 46 (.int .i64 l.length) rfl (by kernel_rfl) iQ3 (fun Z hZ => ?y2) hS ?_
 case y2=>go_simp
 refine tkk 4 48 (.pointer (some ⟨W.heap.size,2,none⟩)) (by kernel_rfl) iQ3 hS ?_;refine tk 5 49 (.string ⟨l.toArray⟩) rfl (by kernel_rfl) iQ3 (fun Z hZ => ?y3) hS ?_
 case y3=>(have hz:=qab hZ.box 2;go_simp)
 refine rdH 3 rfl (by kernel_rfl) (fun K hK => ?_);go_simp;refine(c _).mono ?_;rintro e w2 ⟨rfl,hB2⟩;have hS2:=hS.next hB2
 refine hK.out _ _ hS2 (fun _ => ?_);refine tk 6 50 (qxX (qaj 2 l.length++l)) rfl (by kernel_rfl) iQ3 (fun Z hZ => ?y4) hS2 ?_
 case y4=>(unfold qxX;go_simp;exact qxF _ _)
 refine tkk 7 2 (qxX (qaj 2 l.length++l)) (by kernel_rfl) iQ3 hS2 ?_;refine wpAnyH_done (by kernel_rfl) ?_ _;go_wp2;go_ret;exact⟨rfl,hS2.below⟩
end
section
open Go.RowKit
theorem Own.mono {b b':Nat}{bs:List UInt8}(h:Own W b v bs)(hb:b'≤b):Own W b' v bs:=by
 obtain⟨⟨h1,h2⟩,h3,h4⟩:=h;refine⟨⟨h1,?_⟩,by omega,h4⟩;rcases h2 with h2|⟨g,cap,cur,e,hg,h5⟩
 ·exact .inl h2
 exact .inr ⟨g,cap,cur,e,by omega,h5⟩
structure q2b (V:World)(p:Nat)(fin d l:Int)(bv:Value):Prop where
 b0:Boxed V p 3 (.int .i64 fin)
 b1:Boxed V (p+1) 3 (.int .i64 d)
 b2:Boxed V (p+2) 3 (.int .i64 l)
 b3:Boxed V (p+3) 28 bv
def trW (W:World)(fin d l:Int)(bv:Value):World:=(((W.alloc (.cells #[.int .i64 fin] 3)).alloc (.cells #[.int .i64 d] 3)).alloc (.cells #[.int .i64 l] 3)).alloc (.cells #[bv] 28)
theorem q4c (W:World)(fin d l:Int)(bv:Value):q2b (trW W fin d l bv) W.heap.size fin d l bv:=by
 unfold trW;refine⟨(((Boxed.new W _ _).alloc _).alloc _).alloc _,?_,?_,?_⟩
 ·have:=Boxed.new (W.alloc (.cells #[.int .i64 fin] 3)) 3 (.int .i64 d);simp only[World.size_alloc] at this;exact(this.alloc _).alloc _
 ·have:=Boxed.new ((W.alloc (.cells #[.int .i64 fin] 3)).alloc (.cells #[.int .i64 d] 3)) 3 (.int .i64 l);simp only[World.size_alloc] at this;exact this.alloc _
 have:=Boxed.new (((W.alloc (.cells #[.int .i64 fin] 3)).alloc (.cells #[.int .i64 d] 3)).alloc (.cells #[.int .i64 l] 3)) 28 bv;simp only[World.size_alloc] at this;exact this
theorem q1v (W:World)(fin d l:Int)(bv:Value):Below W.heap.size W (trW W fin d l bv):=by
 unfold trW;exact(((bwA).alloc (by simp) _).alloc (by simp;omega) _).alloc (by simp;omega) _
theorem q2b.below {p:Nat}{fin d l:Int}{bv:Value}(h:q2b V p fin d l bv)(hB:Below V.heap.size V V'):q2b V' p fin d l bv :=
 ⟨(hB.block _ h.b0.lt).trans h.b0,(hB.block _ h.b1.lt).trans h.b1,(hB.block _ h.b2.lt).trans h.b2,(hB.block _ h.b3.lt).trans h.b3⟩
theorem qo4 (V:World)(fout:Int)(t:TypeId)(y:Value)(ys:List UInt8)(hf:(fout==1)=false)(cW:Calls prog 67 #[.int .i64 fout,.iface t y] V fun e V'=>∃v',e=.returned v'∧Own V' V.heap.size v' ys∧Below V.heap.size V V'):Calls prog 42 #[.int .i64 fout,.iface t y] V fun e V'=>∃v',e=.returned (.tuple #[v',.int .i64 0])∧Own V' V.heap.size v' ys∧Below V.heap.size V V':=by
 go_enter func42,ntmps42
 go_wp2_with (first
  |(go_at_call 67;refine cW.mono ?_;rintro e w5 ⟨v5,rfl,h5,hB5⟩;obtain⟨h51,h52,a5,n5,k5,rfl⟩:=h5))
 go_ret2
 exact⟨_,rfl,⟨h51,h52,_,_,_,rfl⟩,hB5⟩
theorem qm4 (V:World)(t:TypeId)(y:Value)(ys:List UInt8)(cH:Calls prog 66 #[.iface t y] V fun e W'=>e=.returned (.bool false)∧Below V.heap.size V W')(cW:∀U,Below V.heap.size V U→Calls prog 67 #[.int .i64 1,.iface t y] U fun e V'=>∃v',e=.returned v'∧Own V' V.heap.size v' ys∧Below V.heap.size U V'):Calls prog 42 #[.int .i64 1,.iface t y] V fun e V'=>∃v',e=.returned (.tuple #[v',.int .i64 0])∧Own V' V.heap.size v' ys∧Below V.heap.size V V':=by
 go_enter func42,ntmps42
 go_wp2_with (first
  |(go_at_call 66;refine cH.mono ?_;rintro e w4 ⟨rfl,hB4⟩;have cW2:=cW w4 hB4)
  |(go_at_call 67;refine cW2.mono ?_;rintro e w5 ⟨v5,rfl,h5,hB5⟩;obtain⟨h51,h52,a5,n5,k5,rfl⟩:=h5))
 go_ret2
 exact⟨_,rfl,⟨h51,h52,_,_,_,rfl⟩,hB4.trans hB5⟩
theorem qmH (V:World)(t:TypeId)(y:Value)(cH:Calls prog 66 #[.iface t y] V fun e W'=>e=.returned (.bool true)∧Below V.heap.size V W'):Calls prog 42 #[.int .i64 1,.iface t y] V fun e V'=>e=.returned (.tuple #[.slice none 0 0,.int .i64 13])∧Below V.heap.size V V':=by
 go_enter func42,ntmps42
 go_wp2_with (first
  |(go_at_call 66;refine cH.mono ?_;rintro e w4 ⟨rfl,hB4⟩))
 go_ret2
 exact⟨rfl,hB4⟩
end
end Go.Proofs.YtllcbnfmihfaaaaGreatDoor
