import Derived.Test.YtllcbnfmihfaaaaGreatDoorTq29
import Derived.Test.YtllcbnfmihfaaaaGreatDoorTq27
set_option maxRecDepth 100000
set_option maxHeartbeats 8000000
namespace Go.Proofs.YtllcbnfmihfaaaaGreatDoor
open Go.Proofs.Tryz
variable {V V' W:World}{B N b0 base n:Nat}{c cs gv lv u v:Value}{vs xs:List Value}
section
open Go.RowKit Go.Lib
structure q3w (W:World)(B b0 base S:Nat)(c cs gv:Value)(la0:Option Nat)(vs:List Value)(lv:Value)(N:Nat)(xs:List Value)(V:World):Prop where
 wd:q63 B b0 cs gv lv N xs V
 frm:Frm W V (fun j=>j=B∨some j=la0∨base≤j)
 all:∀v∈vs,q1c V v c base∧∀g,v.ownBlock=some g→base≤g∧g<S
 rb:∀g,lv.ownBlock=some g→some g=la0∨S≤g
 sz:S≤V.heap.size∧base≤S∧B<base∧base≤W.heap.size+1
 lb:∀g,la0=some g→g<base
theorem qz3 {b:Nat}{t:TypeId}{size:Nat}(h:V.ownsRow b t size u n xs)(hk:∀j,u.ownBlock=some j→V'.heap[j]? = V.heap[j]?):V'.ownsRow b t size u n xs:=by
 refine⟨h.1,?_⟩;rcases h.2 with h2|⟨g,cap,cur,e,hb,hg,h3⟩
 ·exact .inl h2
 exact .inr ⟨g,cap,cur,e,hb,(hk g (by rw[e];rfl)).trans hg,h3⟩
theorem q1c.keep {lo:Nat}(h:q1c V v c lo)(hk:∀g,v.ownBlock=some g→V'.heap[g]? = V.heap[g]?):q1c V' v c lo:=by
 obtain⟨a,n,cap,rfl,h⟩:=h;refine⟨a,n,cap,rfl,?_⟩;rcases h with h|⟨g,cur,rfl,h2,h3,h4,h5⟩
 ·exact .inl h
 exact .inr ⟨g,cur,rfl,h2,(hk g rfl).trans h3,h4,h5⟩
theorem q3w.app {S:Nat}{lv':Value}{la0:Option Nat}{o:Obj}(h:q3w W B b0 base S c cs gv la0 vs lv N xs V)(hown:V'.ownsRow b0 28 1 lv' (N+1) (xs++[u]))(hg:(V.alloc o).grownBy V' lv.ownBlock)(hw:lv'.ownBlock=lv.ownBlock∨lv'.ownBlock=some (V.alloc o).heap.size):q3w W B b0 base S c cs gv la0 vs lv' (N+1) (xs++[u]) (V'.setCell ⟨B,2,none⟩ lv'):=by
 have hBl:=ltA h.wd.wd;have hgs:V.heap.size+1≤V'.heap.size:=by have:=hg.size;simpa using this
 have hkp:∀j,j<V.heap.size→some j≠lv.ownBlock→V'.heap[j]? = V.heap[j]?:=fun j hj hn=>(hg.block j (by simp;omega) hn).trans (Below.heap_alloc _ _ _ hj);have hneB:some B≠lv.ownBlock:=fun e=>h.wd.ne B e.symm rfl;have hB':=(hkp B hBl hneB).trans h.wd.wd;have ho:∀j,j≠B→(V'.setCell ⟨B,2,none⟩ lv').heap[j]? = V'.heap[j]?:=fun j hj=>heap_setCell_other V' _ _ _ (by simpa using hj);have hne':∀g,lv'.ownBlock=some g→g≠B:=fun g e=>by
  rcases hw with h1|h1
  ·exact h.wd.ne g (h1.symm.trans e)
  rw[h1] at e;injection e with e;simp at e;omega
 have hz:(V'.setCell ⟨B,2,none⟩ lv').heap.size=V'.heap.size:=by simp[World.setCell]
 refine⟨⟨?_,?_,hne'⟩,?_,fun v hv=>⟨?_,(h.all v hv).2⟩,fun g e => ?_,⟨by rw[hz];have:=h.sz;omega,h.sz.2⟩,h.lb⟩
 ·rw[heap_setCell_same _ _ _ _ _ _ hB'];rfl
 ·refine⟨hown.1,?_⟩;rcases hown.2 with h2|⟨g,cap,cur,e,h1,h2,h3⟩
  ·exact .inl h2
  exact .inr ⟨g,cap,cur,e,h1,(ho g (hne' g (by rw[e];rfl))).trans h2,h3⟩
 ·refine(h.frm.next (qy5 hg (fun g e hgl => ?_))).next (q0W (.inl rfl))
  rcases h.rb g e with h1|h1
  ·exact .inr (.inl h1)
  exact .inr (.inr (by have:=h.sz;omega))
 ·refine(h.all v hv).1.keep (fun g e => ?_);have h3:=(h.all v hv).2 g e;rw[ho g (by have:=h.sz;omega)];refine hkp g (by have:=h.sz;omega) (fun e2 => ?_);rcases h.rb g e2.symm with h1|h1
  ·have:=h.lb g h1.symm;omega
  omega
 rcases hw with h1|h1
 ·exact h.rb g (h1.symm.trans e)
 rw[h1] at e;injection e with e;simp at e;right;have:=h.sz;omega
theorem q24 (hW:q63 B b0 cs gv lv N xs W)(hF:Frm W V (fun j=>base≤j))(hbB:B<base)(hlb:∀g,lv.ownBlock=some g→g<base)(hbs:base≤W.heap.size)(hv:∀v∈vs,∃n,V.ownsRow base 5 1 v n (List.replicate n c)):q3w W B b0 base V.heap.size c cs gv lv.ownBlock vs lv N xs V:=by
 refine⟨⟨(hF.block B (by omega) (by omega)).trans hW.wd,qz3 hW.row (fun j e=>hF.block j (qy1 hW.row e) (by have:=hlb j e;omega)),hW.ne⟩,⟨hF.os,hF.tape,hF.output,hF.size,fun j hj hx=>hF.block j hj (fun h=>hx (.inr (.inr h)))⟩,fun v hm => ?_,fun g e=>.inl e.symm,⟨Nat.le_refl _,by have:=hF.size;omega,hbB,by omega⟩,hlb⟩;obtain⟨n,ho⟩:=hv v hm;exact⟨q1c.own ho,fun g e=>⟨qbA ho e,qy1 ho e⟩⟩
theorem q4a {n0 n1 n2 n3:Nat}{v0 v1 v2 v3:Value}(h0:V.ownsRow base 5 1 v0 n0 (List.replicate n0 c))(h1:V.ownsRow base 5 1 v1 n1 (List.replicate n1 c))(h2:V.ownsRow base 5 1 v2 n2 (List.replicate n2 c))(h3:V.ownsRow base 5 1 v3 n3 (List.replicate n3 c)):∀v∈[v0,v1,v2,v3],∃n,V.ownsRow base 5 1 v n (List.replicate n c):=fun v hv=>by
 simp at hv;rcases hv with rfl|rfl|rfl|rfl
 ·exact⟨_,h0⟩
 ·exact⟨_,h1⟩
 ·exact⟨_,h2⟩
 exact⟨_,h3⟩
theorem qy3 (w:World)(cs:Array Value)(t:TypeId)(n:Nat)(h:w.heap.size=n):∀(j:Nat) (u:Value),cs.toList[j]? = some u→(w.alloc (.cells cs t)).cell? ((⟨n,0,none⟩:Addr).add j)=some u:=by
 subst h;exact qag w cs t
theorem qz5 (v:Value)(a:Option Addr)(n c:Nat)(h:v=.slice a n c):∀u∈[v],u.oneCell'=true:=fun u hu=>by
 simp at hu;subst hu;subst h;rfl
theorem qy4 {t:TypeId}(h:V.ownsRow base t 1 v n xs):∃a c,v=.slice a n c:=by
 rcases h.2 with ⟨rfl,rfl⟩|⟨g,cap,cur,rfl,_⟩
 ·exact⟨none,0,rfl⟩
 exact⟨_,cap,rfl⟩
theorem q3d (W:World)(B b0 base:Nat)(cs gv:Value)(la:Option Addr)(N lcap:Nat)(xs:List Value)(g cap:Nat)(l:List UInt8)(en:Int)(hW:q63 B b0 cs gv (.slice la N lcap) N xs W)(hbB:B<base)(hlb:∀g,(Value.slice la N lcap).ownBlock=some g→g<base)(hb0:b0≤W.heap.size)(hbs:base≤W.heap.size)(hN:N≤1000000000)(hO:Own W base (.slice (some ⟨g,0,none⟩) l.length cap) l)(hl:l.length≤200000000)(he:en=0):Calls prog 93 #[.pointer (some ⟨B,0,none⟩),.slice (some ⟨g,0,none⟩) l.length cap,.string ⟨l.toArray⟩,.int .i64 en] W fun e W'=>e=.returned (.bool true)∧∃S lv' a1 c1 a2 c2 a3 c3,q3w W B b0 base S (.int .u8 (mkN N)) cs gv (Value.slice la N lcap).ownBlock [.slice (some ⟨g,0,none⟩) l.length cap,.slice a1 (l.length+1) c1,.slice a2 (l.length+2) c2,.slice a3 (l.length+3) c3] lv' (N+4) (xs++[.slice (some ⟨g,0,none⟩) l.length cap,.slice a1 (l.length+1) c1,.slice a2 (l.length+2) c2,.slice a3 (l.length+3) c3]) W':=by
 obtain⟨i0,hi0,hz0,hz1,hz2⟩:=info_parts Tryz.infoU8;obtain⟨bi,hbi,hb1,hb2,hb3⟩:=info_parts Tryz.infoBs;have HWD:=qaa hW;have q2:W.cell? ⟨B,2,none⟩=some (.slice la N lcap):=qab hW.wd 2;have cM:∀V,Calls prog 61 #[.int .i64 N] V fun e W'=>e=.returned (.int .u8 (mkN N))∧V=W':=fun V=>(qzF N (by omega) V).mono fun e W' h=>⟨h.1,h.2.symm⟩
 have HLB:=qaa hlb;have hBs:B<W.heap.size:=by omega
 subst he;have hcv:=qkU hO;have hse:=beq_self_eq_true l;have HO:=qaa hO.1;have hq1:=fun w=>Lib.run_eql_slice_nil (P:=prog) w 28 5 (some ⟨g,0,none⟩) l.length cap 0 0 underlying28;go_enter func93,ntmps93
 go_wp2_with (first
  |(go_at_call 61;refine(cM _).mono ?_;rintro e w1 ⟨rfl,rfl⟩))
 go_loopg [11] l.length (fun gh z wr=>∃k:Nat,z=.int .i64 k∧Hid (k+gh=l.length)∧Hid (Frm W wr (fun j=>base≤j))∧∃cur,Hid (wr.heap[g]? = some (.cells cur 5))∧Hid (cur.size=cap∧l.length≤cap∧cap≤maxLen∧base≤g∧∀j,j<k→cur[j]? = some (.int .u8 (mkN N))))
 case atStart =>
  rcases HO.out.2 with ⟨h,_⟩|⟨g',cap',cur,e,h1,h2,h3,h4,h5,_⟩
  ·cases h
  cases e;exact⟨0,rfl,by show _=_;omega,Frm.refl _ _,cur,h2,by omega,h3,h4,h1,fun j hj=>by omega⟩
 case round =>
  obtain⟨k,rfl,hg,HF,cur,HC,HCU⟩:=hrel
  cases gk with
  |succ gh =>
   have hlt:(k:Int)<(l.length:Int):=by have:=hg.out;omega
   have hkl:k<l.length:=by omega
   obtain⟨v0,hv0⟩:∃v,cur[k]? = some v:=⟨_,Array.getElem?_eq_getElem (by have:=HCU.out;omega)⟩
   have k0:=(qab HC.out k).trans hv0;have f0:=frozen_of_row wr g k _ _ HC.out;have HN:Hid ((wr.setCell ⟨g,k,none⟩ (.int .u8 (mkN N))).heap[g]? = some (.cells (cur.setIfInBounds k (.int .u8 (mkN N))) 5)):=by
    show _=_;rw[heap_setCell_same _ _ _ _ _ _ HC.out]
   have HNF:Hid (Frm W (wr.setCell ⟨g,k,none⟩ (.int .u8 (mkN N))) (fun j=>base≤j)):=HF.out.next (q0W HCU.out.2.2.2.1)
   have HNC:Hid ((cur.setIfInBounds k (.int .u8 (mkN N))).size=cap∧l.length≤cap∧cap≤maxLen∧base≤g∧∀j,j<k+1→(cur.setIfInBounds k (.int .u8 (mkN N)))[j]? = some (.int .u8 (mkN N))):=by
    refine⟨by have:=HCU.out.1;simpa using this,HCU.out.2.1,HCU.out.2.2.1,HCU.out.2.2.2.1,fun j hj => ?_⟩;rw[Array.getElem?_setIfInBounds];by_cases e:k=j
    ·rw[if_pos e,if_pos (by have:=HCU.out;omega)]
    rw[if_neg e];exact HCU.out.2.2.2.2 j (by omega)
   go_wp2;go_roundg gh
   case measure=>omega
   case rel=>exact⟨k+1,by go_num,by show _=_;have:=hg.out;omega,HNF,_,HN,HNC⟩
  |zero =>
   have hge:¬(k:Int)<(l.length:Int):=by have:=hg.out;omega
   have HO0:Hid (wr.ownsRow base 5 1 (.slice (some ⟨g,0,none⟩) l.length cap) (l.length) (List.replicate (l.length) (.int .u8 (mkN N)))):=by
    refine⟨by simp,.inr ⟨g,cap,cur,rfl,HCU.out.2.2.2.1,HC.out,HCU.out.2.1,HCU.out.2.2.1,by have:=HCU.out.1;omega,?_⟩⟩;apply List.ext_getElem?;intro j;by_cases hj:j<l.length
    ·rw[List.getElem?_take_of_lt (by omega),List.getElem?_replicate,if_pos hj,Array.getElem?_toList];exact HCU.out.2.2.2.2 j (by have:=hg.out;omega)
    rw[List.getElem?_eq_none (by simp;omega),List.getElem?_eq_none (by simp;omega)]
   have HSZ0:Hid (base≤wr.heap.size∧B<wr.heap.size):=⟨by have:=HF.out.size;omega,by have:=HF.out.size;omega⟩
   have HBW:Hid (wr.heap[B]? = some (.cells #[cs,gv,.slice la N lcap] 71)∨True):=.inr trivial;have HFR0:Hid (Frm W wr (fun j=>base≤j)):=HF;have q2:True:=trivial
   go_wp2_with (first
    |(at_builtin;(refine qxN _ rfl _ _ 28 rfl base 5 i0 (.int .u8 0) 1 underlying28 hi0 hz0 hz1 hz2 rfl _ _ (.int .u8 (mkN N)) rfl (HO0.out.alloc _) ⟨wr.heap.size,0,none⟩ 1 1 rfl (qag _ _ _) rfl (by decide) (by unfold maxLen;omega) (by omega) (by have:=HSZ0.out;simp;omega) ?_);intro v1 y1 hown1 hmk1 hgr1 hwh1;have HO1:=qaa (qyh HO0.out ((qxP wr _ _).trans hmk1));have HA1:=qaa hown1;have HMK1:=qaa ((qxP wr _ _).trans hmk1);have HFR1:=qaa (qy5 hgr1 (fun g e _=>qbA HO0.out e));have HSZ1:Hid (base≤y1.heap.size∧B<y1.heap.size):=⟨by have:=HSZ0.out;have:=HFR1.out.size;omega,by have:=HSZ0.out;have:=HFR1.out.size;omega⟩;obtain⟨a1,c1,rfl⟩:=qy4 hown1;have q2:True:=trivial)
    |(at_builtin;(refine qxN _ rfl _ _ 28 rfl base 5 i0 (.int .u8 0) 1 underlying28 hi0 hz0 hz1 hz2 rfl _ _ (.int .u8 (mkN N)) rfl (HO1.out.alloc _) ⟨y1.heap.size,0,none⟩ 2 2 rfl (qag _ _ _) rfl (by decide) (by unfold maxLen;omega) (by omega) (by have:=HSZ1.out;simp;omega) ?_);intro v2 y2 hown2 hmk2 hgr2 hwh2;have HO2:=qaa (qyh HO1.out ((qxP y1 _ _).trans hmk2));have HA2:=qaa hown2;have HMK2:=qaa ((qxP y1 _ _).trans hmk2);have HFR2:=qaa (qy5 hgr2 (fun g e _=>qbA HO1.out e));have HSZ2:Hid (base≤y2.heap.size∧B<y2.heap.size):=⟨by have:=HSZ1.out;have:=HFR2.out.size;omega,by have:=HSZ1.out;have:=HFR2.out.size;omega⟩;obtain⟨a2,c2,rfl⟩:=qy4 hown2;have q2:True:=trivial)
    |(at_builtin;(refine qxN _ rfl _ _ 28 rfl base 5 i0 (.int .u8 0) 1 underlying28 hi0 hz0 hz1 hz2 rfl _ _ (.int .u8 (mkN N)) rfl (HO2.out.alloc _) ⟨y2.heap.size,0,none⟩ 3 3 rfl (qag _ _ _) rfl (by decide) (by unfold maxLen;omega) (by omega) (by have:=HSZ2.out;simp;omega) ?_);intro v3 y3 hown3 hmk3 hgr3 hwh3;have HO3:=qaa (qyh HO2.out ((qxP y2 _ _).trans hmk3));have HA3:=qaa hown3;have HMK3:=qaa ((qxP y2 _ _).trans hmk3);have HFR3:=qaa (qy5 hgr3 (fun g e _=>qbA HO2.out e));have HSZ3:Hid (base≤y3.heap.size∧B<y3.heap.size):=⟨by have:=HSZ2.out;have:=HFR3.out.size;omega,by have:=HSZ2.out;have:=HFR3.out.size;omega⟩;obtain⟨a3,c3,rfl⟩:=qy4 hown3;have q2:True:=trivial;have HK0:=qaa (q24 HWD.out (((HFR0.out.next HFR1.out).next HFR2.out).next HFR3.out) hbB HLB.out hbs (fun v hv=>q4a (HO3.out) (qyh (qyh HA1.out HMK2.out) HMK3.out) (qyh HA2.out HMK3.out) HA3.out v hv));obtain⟨vs,hvs⟩:∃vs:List Value,vs=[.slice (some ⟨g,0,none⟩) l.length cap,.slice a1 (l.length+1) c1,.slice a2 (l.length+2) c2,.slice a3 (l.length+3) c3]:=⟨_,rfl⟩;rw[←hvs] at HK0;have q2:y3.cell? ⟨B,2,none⟩=some (.slice la N lcap):=qab HK0.out.wd.wd 2)
    |(at_builtin;(refine qaX _ rfl _ _ 69 rfl b0 28 bi (.slice none 0 0) 1 24 underlying69 hbi hb1 hb2 hb3 rfl (by decide) _ _ _ rfl (HK0.out.wd.row.alloc _) ⟨y3.heap.size,0,none⟩ 1 1 [.slice (some ⟨g,0,none⟩) l.length cap] rfl rfl (qag _ _ _) (qz5 _ _ _ _ rfl) (by decide) (by unfold maxLen;omega) (by omega) (by have:=HK0.out.frm.size;simp;omega) ?_);intro r1 x0 hown hgr hwh;obtain⟨rg0,rc0,rfl⟩:=ownsRow_succ hown;have HK1:=qaa (HK0.out.app hown hgr hwh);have HBX:=qaa ((hgr.block B (by have:=ltA HK0.out.wd.wd;simp;omega) (fun e=>HK0.out.wd.ne B e.symm rfl)).trans ((Below.heap_alloc _ _ _ (ltA HK0.out.wd.wd)).trans HK0.out.wd.wd));have q2:x0.cell? ⟨B,2,none⟩=some (.slice la N lcap):=qab HBX.out 2;have f2:=frozen_of_row x0 B 2 _ _ HBX.out)
    |(at_builtin;(refine qaX _ rfl _ _ 69 rfl b0 28 bi (.slice none 0 0) 1 24 underlying69 hbi hb1 hb2 hb3 rfl (by decide) _ _ _ rfl (HK1.out.wd.row.alloc _) ⟨x0.heap.size,0,none⟩ 1 1 [.slice a1 (l.length+1) c1] rfl rfl (qy3 _ _ _ _ (by simp[World.setCell])) (qz5 _ _ _ _ rfl) (by decide) (by unfold maxLen;omega) (by omega) (by have:=HK1.out.frm.size;simp[World.setCell] at this ⊢;omega) ?_);intro r2 x1 hown hgr hwh;obtain⟨rg1,rc1,rfl⟩:=ownsRow_succ hown;have HK2:=qaa (HK1.out.app hown hgr hwh);have HBX:=qaa ((hgr.block B (by have:=ltA HK1.out.wd.wd;simp[World.setCell] at this ⊢;omega) (fun e=>HK1.out.wd.ne B e.symm rfl)).trans ((Below.heap_alloc _ _ _ (ltA HK1.out.wd.wd)).trans HK1.out.wd.wd));have q2:x1.cell? ⟨B,2,none⟩=some (.slice (some ⟨rg0,0,none⟩) (N+1) rc0):=qab HBX.out 2;have f2:=frozen_of_row x1 B 2 _ _ HBX.out)
    |(at_builtin;(refine qaX _ rfl _ _ 69 rfl b0 28 bi (.slice none 0 0) 1 24 underlying69 hbi hb1 hb2 hb3 rfl (by decide) _ _ _ rfl (HK2.out.wd.row.alloc _) ⟨x1.heap.size,0,none⟩ 1 1 [.slice a2 (l.length+2) c2] rfl rfl (qy3 _ _ _ _ (by simp[World.setCell])) (qz5 _ _ _ _ rfl) (by decide) (by unfold maxLen;omega) (by omega) (by have:=HK2.out.frm.size;simp[World.setCell] at this ⊢;omega) ?_);intro r3 x2 hown hgr hwh;obtain⟨rg2,rc2,rfl⟩:=ownsRow_succ hown;have HK3:Hid (q3w W B b0 base y3.heap.size (.int .u8 (mkN N)) cs gv (Value.slice la N lcap).ownBlock vs (.slice (some ⟨rg2,0,none⟩) (N+1+1+1) rc2) (N+1+1+1) (((xs++[.slice (some ⟨g,0,none⟩) l.length cap])++[.slice a1 (l.length+1) c1])++[.slice a2 (l.length+2) c2]) (x2.setCell ⟨B,2,none⟩ (.slice (some ⟨rg2,0,none⟩) (N+1+1+1) rc2))):=HK2.out.app hown hgr hwh;have HBX:=qaa ((hgr.block B (by have:=ltA HK2.out.wd.wd;simp[World.setCell] at this ⊢;omega) (fun e=>HK2.out.wd.ne B e.symm rfl)).trans ((Below.heap_alloc _ _ _ (ltA HK2.out.wd.wd)).trans HK2.out.wd.wd));have q2:x2.cell? ⟨B,2,none⟩=some (.slice (some ⟨rg1,0,none⟩) (N+1+1) rc1):=qab HBX.out 2;have f2:=frozen_of_row x2 B 2 _ _ HBX.out)
    |(at_builtin;(refine qaX _ rfl _ _ 69 rfl b0 28 bi (.slice none 0 0) 1 24 underlying69 hbi hb1 hb2 hb3 rfl (by decide) _ _ _ rfl (HK3.out.wd.row.alloc _) ⟨x2.heap.size,0,none⟩ 1 1 [.slice a3 (l.length+3) c3] rfl rfl (qy3 _ _ _ _ (by simp[World.setCell])) (qz5 _ _ _ _ rfl) (by decide) (by unfold maxLen;omega) (by omega) (by have:=HK3.out.frm.size;simp[World.setCell] at this ⊢;omega) ?_);intro r4 x3 hown hgr hwh;obtain⟨rg3,rc3,rfl⟩:=ownsRow_succ hown;have HK4:Hid (q3w W B b0 base y3.heap.size (.int .u8 (mkN N)) cs gv (Value.slice la N lcap).ownBlock vs (.slice (some ⟨rg3,0,none⟩) (N+1+1+1+1) rc3) (N+1+1+1+1) ((((xs++[.slice (some ⟨g,0,none⟩) l.length cap])++[.slice a1 (l.length+1) c1])++[.slice a2 (l.length+2) c2])++[.slice a3 (l.length+3) c3]) (x3.setCell ⟨B,2,none⟩ (.slice (some ⟨rg3,0,none⟩) (N+1+1+1+1) rc3))):=HK3.out.app hown hgr hwh;have HBX:=qaa ((hgr.block B (by have:=ltA HK3.out.wd.wd;simp[World.setCell] at this ⊢;omega) (fun e=>HK3.out.wd.ne B e.symm rfl)).trans ((Below.heap_alloc _ _ _ (ltA HK3.out.wd.wd)).trans HK3.out.wd.wd));have q2:x3.cell? ⟨B,2,none⟩=some (.slice (some ⟨rg2,0,none⟩) (N+1+1+1) rc2):=qab HBX.out 2;have f2:=frozen_of_row x3 B 2 _ _ HBX.out))
   go_ret;have hK:=HK4.out;have e:∀(u0 u1 u2 u3:Value),(((xs++[u0])++[u1])++[u2])++[u3]=xs++[u0,u1,u2,u3]:=fun _ _ _ _=>by simp
   rw[e,hvs] at hK;exact⟨rfl,_,_,_,_,_,_,_,_,hK⟩
theorem q3F (W:World)(B b0 base:Nat)(cs gv:Value)(la:Option Addr)(N lcap:Nat)(xs:List Value)(en:Int)(hW:q63 B b0 cs gv (.slice la N lcap) N xs W)(hbB:B<base)(hlb:∀g,(Value.slice la N lcap).ownBlock=some g→g<base)(hb0:b0≤W.heap.size)(hbs:base≤W.heap.size)(hN:N≤1000000000):Calls prog 93 #[.pointer (some ⟨B,0,none⟩),.slice none 0 0,.string ⟨#[]⟩,.int .i64 en] W fun e W'=>e=.returned (.bool true)∧∃S lv' a1 c1 a2 c2 a3 c3,q3w W B b0 base S (.int .u8 (mkN N)) cs gv (Value.slice la N lcap).ownBlock [.slice none 0 0,.slice a1 (0+1) c1,.slice a2 (0+2) c2,.slice a3 (0+3) c3] lv' (N+4) (xs++[.slice none 0 0,.slice a1 (0+1) c1,.slice a2 (0+2) c2,.slice a3 (0+3) c3]) W':=by
 obtain⟨i0,hi0,hz0,hz1,hz2⟩:=info_parts Tryz.infoU8;obtain⟨bi,hbi,hb1,hb2,hb3⟩:=info_parts Tryz.infoBs;have HWD:=qaa hW;have q2:W.cell? ⟨B,2,none⟩=some (.slice la N lcap):=qab hW.wd 2;have cM:∀V,Calls prog 61 #[.int .i64 N] V fun e W'=>e=.returned (.int .u8 (mkN N))∧V=W':=fun V=>(qzF N (by omega) V).mono fun e W' h=>⟨h.1,h.2.symm⟩
 have HLB:=qaa hlb;have hBs:B<W.heap.size:=by omega
 have hcv:=qle W;have hq1:=fun w=>Lib.run_eql_slice_nil (P:=prog) w 28 5 none 0 0 0 0 underlying28;go_enter func93,ntmps93
 go_wp2_with (first
  |(go_at_call 61;refine(cM _).mono ?_;rintro e w1 ⟨rfl,rfl⟩))
 have HO0:Hid (W.ownsRow base 5 1 (.slice none 0 0) (0) (List.replicate (0) (.int .u8 (mkN N)))):=World.ownsRow_nil _ _ _ _;have HSZ0:Hid (base≤W.heap.size∧B<W.heap.size):=⟨hbs,hBs⟩
 have HFR0:Hid (Frm W W (fun j=>base≤j)):=Frm.refl _ _
 go_loopg [11] 0 (fun gh z wr=>W=wr∧z=.int .i64 0∧Hid (gh=0))
 case atStart=>exact⟨rfl,rfl,rfl⟩
 case round =>
  obtain⟨rfl,rfl,hgz⟩:=hrel
  cases gk with
  |succ gh=>exact absurd hgz.out (by omega)
  |zero =>
   go_wp2_with (first
    |(at_builtin;(refine qxN _ rfl _ _ 28 rfl base 5 i0 (.int .u8 0) 1 underlying28 hi0 hz0 hz1 hz2 rfl _ _ (.int .u8 (mkN N)) rfl (HO0.out.alloc _) ⟨W.heap.size,0,none⟩ 1 1 rfl (qag _ _ _) rfl (by decide) (by unfold maxLen;omega) (by omega) (by have:=HSZ0.out;simp;omega) ?_);intro v1 y1 hown1 hmk1 hgr1 hwh1;have HO1:=qaa (qyh HO0.out ((qxP W _ _).trans hmk1));have HA1:=qaa hown1;have HMK1:=qaa ((qxP W _ _).trans hmk1);have HFR1:=qaa (qy5 hgr1 (fun g e _=>qbA HO0.out e));have HSZ1:Hid (base≤y1.heap.size∧B<y1.heap.size):=⟨by have:=HSZ0.out;have:=HFR1.out.size;omega,by have:=HSZ0.out;have:=HFR1.out.size;omega⟩;obtain⟨a1,c1,rfl⟩:=qy4 hown1;have q2:True:=trivial)
    |(at_builtin;(refine qxN _ rfl _ _ 28 rfl base 5 i0 (.int .u8 0) 1 underlying28 hi0 hz0 hz1 hz2 rfl _ _ (.int .u8 (mkN N)) rfl (HO1.out.alloc _) ⟨y1.heap.size,0,none⟩ 2 2 rfl (qag _ _ _) rfl (by decide) (by unfold maxLen;omega) (by omega) (by have:=HSZ1.out;simp;omega) ?_);intro v2 y2 hown2 hmk2 hgr2 hwh2;have HO2:=qaa (qyh HO1.out ((qxP y1 _ _).trans hmk2));have HA2:=qaa hown2;have HMK2:=qaa ((qxP y1 _ _).trans hmk2);have HFR2:=qaa (qy5 hgr2 (fun g e _=>qbA HO1.out e));have HSZ2:Hid (base≤y2.heap.size∧B<y2.heap.size):=⟨by have:=HSZ1.out;have:=HFR2.out.size;omega,by have:=HSZ1.out;have:=HFR2.out.size;omega⟩;obtain⟨a2,c2,rfl⟩:=qy4 hown2;have q2:True:=trivial)
    |(at_builtin;(refine qxN _ rfl _ _ 28 rfl base 5 i0 (.int .u8 0) 1 underlying28 hi0 hz0 hz1 hz2 rfl _ _ (.int .u8 (mkN N)) rfl (HO2.out.alloc _) ⟨y2.heap.size,0,none⟩ 3 3 rfl (qag _ _ _) rfl (by decide) (by unfold maxLen;omega) (by omega) (by have:=HSZ2.out;simp;omega) ?_);intro v3 y3 hown3 hmk3 hgr3 hwh3;have HO3:=qaa (qyh HO2.out ((qxP y2 _ _).trans hmk3));have HA3:=qaa hown3;have HMK3:=qaa ((qxP y2 _ _).trans hmk3);have HFR3:=qaa (qy5 hgr3 (fun g e _=>qbA HO2.out e));have HSZ3:Hid (base≤y3.heap.size∧B<y3.heap.size):=⟨by have:=HSZ2.out;have:=HFR3.out.size;omega,by have:=HSZ2.out;have:=HFR3.out.size;omega⟩;obtain⟨a3,c3,rfl⟩:=qy4 hown3;have q2:True:=trivial;have HK0:=qaa (q24 HWD.out (((HFR0.out.next HFR1.out).next HFR2.out).next HFR3.out) hbB HLB.out hbs (fun v hv=>q4a (HO3.out) (qyh (qyh HA1.out HMK2.out) HMK3.out) (qyh HA2.out HMK3.out) HA3.out v hv));obtain⟨vs,hvs⟩:∃vs:List Value,vs=[.slice none 0 0,.slice a1 (0+1) c1,.slice a2 (0+2) c2,.slice a3 (0+3) c3]:=⟨_,rfl⟩;rw[←hvs] at HK0;have q2:y3.cell? ⟨B,2,none⟩=some (.slice la N lcap):=qab HK0.out.wd.wd 2)
    |(at_builtin;(refine qaX _ rfl _ _ 69 rfl b0 28 bi (.slice none 0 0) 1 24 underlying69 hbi hb1 hb2 hb3 rfl (by decide) _ _ _ rfl (HK0.out.wd.row.alloc _) ⟨y3.heap.size,0,none⟩ 1 1 [.slice none 0 0] rfl rfl (qag _ _ _) (qz5 _ _ _ _ rfl) (by decide) (by unfold maxLen;omega) (by omega) (by have:=HK0.out.frm.size;simp;omega) ?_);intro r1 x0 hown hgr hwh;obtain⟨rg0,rc0,rfl⟩:=ownsRow_succ hown;have HK1:=qaa (HK0.out.app hown hgr hwh);have HBX:=qaa ((hgr.block B (by have:=ltA HK0.out.wd.wd;simp;omega) (fun e=>HK0.out.wd.ne B e.symm rfl)).trans ((Below.heap_alloc _ _ _ (ltA HK0.out.wd.wd)).trans HK0.out.wd.wd));have q2:x0.cell? ⟨B,2,none⟩=some (.slice la N lcap):=qab HBX.out 2;have f2:=frozen_of_row x0 B 2 _ _ HBX.out)
    |(at_builtin;(refine qaX _ rfl _ _ 69 rfl b0 28 bi (.slice none 0 0) 1 24 underlying69 hbi hb1 hb2 hb3 rfl (by decide) _ _ _ rfl (HK1.out.wd.row.alloc _) ⟨x0.heap.size,0,none⟩ 1 1 [.slice a1 (0+1) c1] rfl rfl (qy3 _ _ _ _ (by simp[World.setCell])) (qz5 _ _ _ _ rfl) (by decide) (by unfold maxLen;omega) (by omega) (by have:=HK1.out.frm.size;simp[World.setCell] at this ⊢;omega) ?_);intro r2 x1 hown hgr hwh;obtain⟨rg1,rc1,rfl⟩:=ownsRow_succ hown;have HK2:=qaa (HK1.out.app hown hgr hwh);have HBX:=qaa ((hgr.block B (by have:=ltA HK1.out.wd.wd;simp[World.setCell] at this ⊢;omega) (fun e=>HK1.out.wd.ne B e.symm rfl)).trans ((Below.heap_alloc _ _ _ (ltA HK1.out.wd.wd)).trans HK1.out.wd.wd));have q2:x1.cell? ⟨B,2,none⟩=some (.slice (some ⟨rg0,0,none⟩) (N+1) rc0):=qab HBX.out 2;have f2:=frozen_of_row x1 B 2 _ _ HBX.out)
    |(at_builtin;(refine qaX _ rfl _ _ 69 rfl b0 28 bi (.slice none 0 0) 1 24 underlying69 hbi hb1 hb2 hb3 rfl (by decide) _ _ _ rfl (HK2.out.wd.row.alloc _) ⟨x1.heap.size,0,none⟩ 1 1 [.slice a2 (0+2) c2] rfl rfl (qy3 _ _ _ _ (by simp[World.setCell])) (qz5 _ _ _ _ rfl) (by decide) (by unfold maxLen;omega) (by omega) (by have:=HK2.out.frm.size;simp[World.setCell] at this ⊢;omega) ?_);intro r3 x2 hown hgr hwh;obtain⟨rg2,rc2,rfl⟩:=ownsRow_succ hown;have HK3:Hid (q3w W B b0 base y3.heap.size (.int .u8 (mkN N)) cs gv (Value.slice la N lcap).ownBlock vs (.slice (some ⟨rg2,0,none⟩) (N+1+1+1) rc2) (N+1+1+1) (((xs++[.slice none 0 0])++[.slice a1 (0+1) c1])++[.slice a2 (0+2) c2]) (x2.setCell ⟨B,2,none⟩ (.slice (some ⟨rg2,0,none⟩) (N+1+1+1) rc2))):=HK2.out.app hown hgr hwh;have HBX:=qaa ((hgr.block B (by have:=ltA HK2.out.wd.wd;simp[World.setCell] at this ⊢;omega) (fun e=>HK2.out.wd.ne B e.symm rfl)).trans ((Below.heap_alloc _ _ _ (ltA HK2.out.wd.wd)).trans HK2.out.wd.wd));have q2:x2.cell? ⟨B,2,none⟩=some (.slice (some ⟨rg1,0,none⟩) (N+1+1) rc1):=qab HBX.out 2;have f2:=frozen_of_row x2 B 2 _ _ HBX.out)
    |(at_builtin;(refine qaX _ rfl _ _ 69 rfl b0 28 bi (.slice none 0 0) 1 24 underlying69 hbi hb1 hb2 hb3 rfl (by decide) _ _ _ rfl (HK3.out.wd.row.alloc _) ⟨x2.heap.size,0,none⟩ 1 1 [.slice a3 (0+3) c3] rfl rfl (qy3 _ _ _ _ (by simp[World.setCell])) (qz5 _ _ _ _ rfl) (by decide) (by unfold maxLen;omega) (by omega) (by have:=HK3.out.frm.size;simp[World.setCell] at this ⊢;omega) ?_);intro r4 x3 hown hgr hwh;obtain⟨rg3,rc3,rfl⟩:=ownsRow_succ hown;have HK4:Hid (q3w W B b0 base y3.heap.size (.int .u8 (mkN N)) cs gv (Value.slice la N lcap).ownBlock vs (.slice (some ⟨rg3,0,none⟩) (N+1+1+1+1) rc3) (N+1+1+1+1) ((((xs++[.slice none 0 0])++[.slice a1 (0+1) c1])++[.slice a2 (0+2) c2])++[.slice a3 (0+3) c3]) (x3.setCell ⟨B,2,none⟩ (.slice (some ⟨rg3,0,none⟩) (N+1+1+1+1) rc3))):=HK3.out.app hown hgr hwh;have HBX:=qaa ((hgr.block B (by have:=ltA HK3.out.wd.wd;simp[World.setCell] at this ⊢;omega) (fun e=>HK3.out.wd.ne B e.symm rfl)).trans ((Below.heap_alloc _ _ _ (ltA HK3.out.wd.wd)).trans HK3.out.wd.wd));have q2:x3.cell? ⟨B,2,none⟩=some (.slice (some ⟨rg2,0,none⟩) (N+1+1+1) rc2):=qab HBX.out 2;have f2:=frozen_of_row x3 B 2 _ _ HBX.out))
   go_ret;have hK:=HK4.out;have e:∀(u0 u1 u2 u3:Value),(((xs++[u0])++[u1])++[u2])++[u3]=xs++[u0,u1,u2,u3]:=fun _ _ _ _=>by simp
   rw[e,hvs] at hK;exact⟨rfl,_,_,_,_,_,_,_,_,hK⟩
end
end Go.Proofs.YtllcbnfmihfaaaaGreatDoor
