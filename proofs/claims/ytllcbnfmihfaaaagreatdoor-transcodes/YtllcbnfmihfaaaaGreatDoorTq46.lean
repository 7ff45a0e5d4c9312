import Derived.Test.YtllcbnfmihfaaaaGreatDoorTq45
import Derived.Test.YtllcbnfmihfaaaaGreatDoorTq33
import Derived.Test.YtllcbnfmihfaaaaGreatDoorTq40
set_option maxRecDepth 100000
set_option maxHeartbeats 8000000
namespace Go.Proofs.YtllcbnfmihfaaaaGreatDoor
open Go.Proofs.Tryz
variable {bs:List UInt8}{d fm l lim n:Int}{M b k:Nat}{V V' W w w5 wr:World}{A G H a f y:Array Value}{kv u v':Value}{o:Obj}{kl:List (List UInt8)}{ds:List (DataW Unit)}{F:Int×Int}
section
open Go.RowKit Go.Lib
theorem q40 (W:World)(bs:List UInt8)(fm d l lim:Int)(i x:Nat)(n:Int)(hn:n=min (x:Int) 9223372036854775807)(hl:Lm bs l lim)(hi:InR bs lim i)(hb:bs.length≤200000000):Calls prog 176 #[.agg (inA bs fm d l),.int .i64 i,.int .i64 n,.bool false] W fun e W'=>q2a (qhb bs lim x i []) e∧Below W.heap.size W W':=by
 have h1:=hi.1;by_cases hx:x≤bs.length
 ·have e:n=(x:Int):=by omega
  subst e;exact q6L W bs fm d l lim i x hl hi hb hx
 by_cases ho:(i:Int)+n≤9223372036854775807
 ·exact q6J W bs fm d l lim i x hl hi hb n (by omega) (by omega) ho
 exact q6C W bs fm d l lim i x hl hi hb n (by omega) (by omega) (by omega) (by omega)
theorem q2F (W:World)(bs:List UInt8)(fm d l lim:Int)(i x:Nat)(n:Int)(hn:n=min (x:Int) 9223372036854775807)(hl:Lm bs l lim)(hi:InR bs lim i)(hb:bs.length≤200000000):Calls prog 176 #[.agg (inA bs fm d l),.int .i64 i,.int .i64 n,.bool true] W fun e W'=>q2a (qfg bs lim x i [] 0) e∧Below W.heap.size W W':=by
 have h1:=hi.1;by_cases hx:x≤bs.length
 ·have e:n=(x:Int):=by omega
  subst e;exact q6H W bs fm d l lim i x hl hi hb hx
 by_cases ho:(i:Int)+n≤9223372036854775807
 ·exact q6E W bs fm d l lim i x hl hi hb n (by omega) (by omega) ho
 exact q6G W bs fm d l lim i x hl hi hb n (by omega) (by omega) (by omega) (by omega)
theorem q28:∀(k p:Nat) (acc l:List UInt8) (q:Nat),InR bs lim p→qhb bs lim k p acc=.ok (l,q)→InR bs lim q∧p≤q
 |0,p,acc,l,q,hi,h=>by
  rw[qhb] at h;injection h with h;injection h with _ h;subst h;exact⟨hi,Nat.le_refl _⟩
 |k+1,p,acc,l,q,hi,h=>by
  rw[qhb] at h
  cases hc:bs[p]? with
  |none=>rw[hc] at h;cases h
  |some c =>
   rw[hc] at h;simp only[] at h;by_cases hp:(p:Int)=lim
   ·rw[if_pos hp] at h;cases h
   rw[if_neg hp] at h;have:=q28 k (p+1) _ l q (qxJ hi hc hp) h;exact⟨this.1,by omega⟩
theorem q1h:∀(k p:Nat) (acc:List UInt8) (wh:Nat) (l:List UInt8) (q:Nat),InR bs lim p→qfg bs lim k p acc wh=.ok (l,q)→InR bs lim q∧p≤q
 |0,p,acc,wh,l,q,hi,h=>by
  rw[qfg] at h;split at h
  ·injection h with h;injection h with _ h;subst h;exact⟨hi,Nat.le_refl _⟩
  cases h
 |k+1,p,acc,wh,l,q,hi,h=>by
  rw[qfg] at h
  cases hc:bs[p]? with
  |none=>rw[hc] at h;cases h
  |some c =>
   rw[hc] at h;simp only[] at h;by_cases hp:(p:Int)=lim
   ·rw[if_pos hp] at h;cases h
   rw[if_neg hp] at h;split at h
   ·cases h
   have:=q1h k (p+1) _ _ l q (qxJ hi hc hp) h;exact⟨this.1,by omega⟩
def qyp (k:Nat)(bs:List UInt8)(lim:Int)(W:World)(r:Except (Int×Int) (DataW Unit×Nat))(e:Ending)(W':World):Prop :=
 Below W.heap.size W W'∧match r with
 |.ok (d,q)=>InR bs lim q∧∃kd n s a i j b p m,e=.returned (.tuple #[.agg (thA kd n s (.slice a i j) (.slice b p m)),.int .i64 q,.agg (qqp (0,0))])∧qyi k W' (fun j=>W.heap.size≤j∧j<W'.heap.size) (.agg (thA kd n s (.slice a i j) (.slice b p m))) d
 |.error f=>∃kd n s a i j b p m z,e=.returned (.tuple #[.agg (thA kd n s (.slice a i j) (.slice b p m)),.int .i64 z,.agg (qqp f)])
theorem q5V {W':World}{r:Except (Int×Int) (DataW Unit×Nat)}{e:Ending}(h:qyp k bs lim W r e W'):qxV k bs lim W r e W':=⟨h.1,r,.inl rfl,h.2⟩
structure qy9 (W:World)(A H y:Array Value)(V:World):Prop where
 box:V.heap[W.heap.size]? = some (.cells A 143)
 hd:V.heap[W.heap.size+1]? = some (.cells H 294)
 th:V.heap[W.heap.size+2]? = some (.cells th0 93)
 flt:V.heap[W.heap.size+3]? = some (.cells (qqp (0,0)) 95)
 tv:V.heap[W.heap.size+4]? = some (.cells y 93)
 below:Below W.heap.size W V
theorem qy9.keep (h:qy9 W A H y V)(hb:Below W.heap.size W V')(hk:∀j,W.heap.size≤j→j<W.heap.size+5→V'.heap[j]? = V.heap[j]?):qy9 W A H y V' :=
 ⟨(hk _ (by omega) (by omega)).trans h.box,(hk _ (by omega) (by omega)).trans h.hd,(hk _ (by omega) (by omega)).trans h.th,(hk _ (by omega) (by omega)).trans h.flt,(hk _ (by omega) (by omega)).trans h.tv,hb⟩
theorem qy9.size (h:qy9 W A H y V):W.heap.size+5≤V.heap.size:=ltA h.tv
theorem qy9.next (h:qy9 W A H y V)(hb:Below V.heap.size V V'):qy9 W A H y V':=h.keep (h.below.trans (hb.mono h.below.size)) (fun j _ hj=>hb.block j (by have:=h.size;omega))
theorem qy9.drew (h:qy9 W A H y V):qy9 W A H y V.drew:=⟨h.box,h.hd,h.th,h.flt,h.tv,h.below.drew⟩
theorem q2E (W:World)(A H:Array Value):qy9 W A H th0 (((((W.alloc (.cells A 143)).alloc (.cells H 294)).alloc (.cells th0 93)).alloc (.cells (qqp (0,0)) 95)).alloc (.cells th0 93)):=by
 have e1:=qac W (.cells A 143);have e2:=qac (W.alloc (.cells A 143)) (.cells H 294);have e3:=qac ((W.alloc (.cells A 143)).alloc (.cells H 294)) (.cells th0 93);have e4:=qac (((W.alloc (.cells A 143)).alloc (.cells H 294)).alloc (.cells th0 93)) (.cells (qqp (0,0)) 95);have e5:=qac ((((W.alloc (.cells A 143)).alloc (.cells H 294)).alloc (.cells th0 93)).alloc (.cells (qqp (0,0)) 95)) (.cells th0 93);simp only[World.size_alloc] at e2 e3 e4 e5;have hB:Below W.heap.size W (((((W.alloc (.cells A 143)).alloc (.cells H 294)).alloc (.cells th0 93)).alloc (.cells (qqp (0,0)) 95)).alloc (.cells th0 93)):=((((bwA).alloc (by simp only[World.size_alloc];omega) _).alloc (by simp only[World.size_alloc];omega) _).alloc (by simp only[World.size_alloc];omega) _).alloc (by simp only[World.size_alloc];omega) _;refine⟨?_,?_,?_,?_,e5,hB⟩
 ·rw[Below.heap_alloc _ _ _ (by simp only[World.size_alloc];omega),Below.heap_alloc _ _ _ (by simp only[World.size_alloc];omega),Below.heap_alloc _ _ _ (by simp only[World.size_alloc];omega),Below.heap_alloc _ _ _ (by simp only[World.size_alloc];omega)];exact e1
 ·rw[Below.heap_alloc _ _ _ (by simp only[World.size_alloc];omega),Below.heap_alloc _ _ _ (by simp only[World.size_alloc];omega),Below.heap_alloc _ _ _ (by simp only[World.size_alloc];omega)];exact e2
 ·rw[Below.heap_alloc _ _ _ (by simp only[World.size_alloc];omega),Below.heap_alloc _ _ _ (by simp only[World.size_alloc];omega)];exact e3
 rw[Below.heap_alloc _ _ _ (by simp only[World.size_alloc];omega)];exact e4
theorem qy9.row (h:qy9 W A H y V)(z:Array Value):qy9 W A H z (V.setRow (W.heap.size+4) z) :=
 ⟨sx (by omega) h.box,sx (by omega) h.hd,sx (by omega) h.th,sx (by omega) h.flt,setRow_heap _ _ _ _ _ _ h.tv,qah h.below (by omega) _⟩
theorem qy9.else (h:qy9 W A H y V)(j:Nat)(hj:W.heap.size+5≤j)(z:Array Value):qy9 W A H y (V.setRow j z) :=
 h.keep (qah h.below (by omega) _) (fun i _ hi=>setRow_other _ _ _ _ (by omega))
theorem qy9.cell {kd:Int}{s:ByteArray}{kx ux:Value}(h:qy9 W A H (thA kd n s kx ux) V)(v':Value):qy9 W A H (thA kd n s v' ux) (V.setCell ⟨W.heap.size+4,3,none⟩ v')∧qy9 W A H (thA kd n s kx v') (V.setCell ⟨W.heap.size+4,4,none⟩ v'):=by
 have ho:∀i j,j≠W.heap.size+4→(V.setCell ⟨W.heap.size+4,i,none⟩ v').heap[j]? = V.heap[j]?:=fun i j hj=>heap_setCell_other V _ _ _ (by simpa using hj);have hz:∀i,Below W.heap.size W (V.setCell ⟨W.heap.size+4,i,none⟩ v'):=fun i=>h.below.trans ⟨rfl,rfl,rfl,by simp[World.setCell],fun j hj=>ho i j (by omega)⟩;refine⟨⟨(ho _ _ (by omega)).trans h.box,(ho _ _ (by omega)).trans h.hd,(ho _ _ (by omega)).trans h.th,(ho _ _ (by omega)).trans h.flt,?_,hz 3⟩,⟨(ho _ _ (by omega)).trans h.box,(ho _ _ (by omega)).trans h.hd,(ho _ _ (by omega)).trans h.th,(ho _ _ (by omega)).trans h.flt,?_,hz 4⟩⟩
 ·rw[heap_setCell_same _ _ _ _ _ _ h.tv];rfl
 rw[heap_setCell_same _ _ _ _ _ _ h.tv];rfl
theorem qy9.grow {x:Option Nat}(h:qy9 W A H y V)(hx:∀g,x=some g→W.heap.size+5≤g)(hg:(V.alloc o).grownBy w5 x):qy9 W A H y w5:=by
 have hs:=h.size;have hgs:V.heap.size+1≤w5.heap.size:=by have:=hg.size;simpa using this
 have hn:∀j,j<W.heap.size+5→w5.heap[j]? = V.heap[j]?:=fun j hj=>qyl hg (by omega) (fun e=>by have:=hx j e.symm;omega);exact h.keep (h.below.trans ⟨hg.os,hg.tape,hg.output,by omega,fun j hj=>hn j (by omega)⟩) (fun j _ hj=>hn j hj)
theorem qy9.fin (h:qy9 W A H y V)(z:Array Value)(x:Int×Int):((V.setRow (W.heap.size+2) z).setRow (W.heap.size+3) (qqp x)).heap[W.heap.size+2]? = some (.cells z 93)∧((V.setRow (W.heap.size+2) z).setRow (W.heap.size+3) (qqp x)).heap[W.heap.size+3]? = some (.cells (qqp x) 95)∧Below W.heap.size W ((V.setRow (W.heap.size+2) z).setRow (W.heap.size+3) (qqp x)):=by
 refine⟨?_,?_,qah (qah h.below (by omega) _) (by omega) _⟩
 ·rw[setRow_other _ _ _ _ (by omega)];exact setRow_heap _ _ _ _ _ _ h.th
 exact setRow_heap _ _ _ _ _ _ (sx (by omega) h.flt)
theorem qxL (w2:World)(o1 o2:Obj)(a f:Array Value):Below w2.heap.size w2 ((((w2.alloc o1).alloc o2).setRow w2.heap.size a).setRow (w2.heap.size+1) f) :=
 qah (qah ((bwA).alloc (by simp only[World.size_alloc];omega) _) (Nat.le_refl _) _) (by omega) _
theorem qxI (w2:World)(o1 o2:Obj):((w2.alloc o1).alloc o2).heap[w2.heap.size]? = some o1∧((w2.alloc o1).alloc o2).heap[w2.heap.size+1]? = some o2:=by
 have e2:=qac (w2.alloc o1) o2;simp only[World.size_alloc] at e2;exact⟨(Below.heap_alloc _ _ _ (by simp only[World.size_alloc];omega)).trans (qac _ _),e2⟩
theorem qzi {b:Array Value}{t:TypeId}:((((w.alloc o).alloc (.cells a t)).setRow w.heap.size b).setRow (w.heap.size+1) f).heap[w.heap.size+1]? = some (.cells f t):=setRow_heap _ _ _ _ _ _ ((setRow_other _ _ _ _ (by omega)).trans (qxI w _ _).2)
theorem q0p {b:Array Value}{t:TypeId}:((((w.alloc (.cells a t)).alloc o).setRow w.heap.size b).setRow (w.heap.size+1) f).heap[w.heap.size]? = some (.cells b t):=(setRow_other _ _ _ _ (by omega)).trans (setRow_heap _ _ _ _ _ _ (qxI w _ _).1)
structure q0l (k:Nat)(V:World)(b:Nat)(kv u:Value)(kl:List (List UInt8))(ds:List (DataW Unit)):Prop where
 keys:V.ownsRow b 9 1 kv kl.length (kl.map qxX)
 kids:qys k V b u (fun j=>some j=kv.ownBlock) ds
 apart:∀g,kv.ownBlock=some g→¬u.ownBlock=some g
theorem q61 (k:Nat)(V:World)(b:Nat):q0l k V b qxE qxE [] []:=⟨World.ownsRow_nil _ _ _ _,qzz _ _ _ _,fun g h=>by cases h⟩
theorem q0l.next (h:q0l k V b kv u kl ds)(hs:V.heap.size≤V'.heap.size)(hk:∀j,b≤j→j<V.heap.size→V'.heap[j]? = V.heap[j]?):q0l k V' b kv u kl ds :=
 ⟨q2y h.keys hk,h.kids.next hs hk,h.apart⟩
theorem q0l.map {B:Nat}(h:q0l k V b kv u kl ds)(hn:kl.length=ds.length)(hB:B≤b):qyi (k+1) V (fun j=>B≤j∧j<V.heap.size) (.agg (thA 7 0 ⟨#[]⟩ kv u)) (.map (esZ kl ds)):=by
 obtain⟨xs,h1,h2⟩:=h.kids;have hF:∀g,b≤g→g<V.heap.size→B≤g∧g<V.heap.size:=fun g hg1 hg2=>⟨by omega,hg2⟩
 refine⟨kv,u,xs,rfl,?_,?_,fun i key d hd => ?_⟩
 ·rw[qyX hn,q1T hn,←hn];exact qyq h.keys _ hF
 ·rw[qyX hn];exact qyq h1 _ hF
 obtain⟨e1,l,e2⟩:=q4s hd;obtain⟨a,e3,e4⟩:=h2 i d e1;exact⟨l,a,e2,e3,e4.same (fun j hj=>⟨by have:=hj.1;omega,hj.2.1⟩) (fun _ _=>rfl)⟩
theorem q0l.key {t:List UInt8}(h:q0l k V b kv u kl ds)(hown:w5.ownsRow b 9 1 v' (kl.length+1) (kl.map qxX++[qxX t]))(hg:(V.alloc o).grownBy w5 kv.ownBlock)(hw:v'.ownBlock=kv.ownBlock∨v'.ownBlock=some (V.alloc o).heap.size):q0l k w5 b v' u (kl++[t]) ds:=by
 obtain⟨xs,h1,h2⟩:=h.kids;have hgs:V.heap.size+1≤w5.heap.size:=by have:=hg.size;simpa using this
 have hne:∀j,j<V.heap.size→some j≠kv.ownBlock→¬some j=v'.ownBlock:=fun j hj hn e=>by
  rcases hw with hw|hw
  ·exact hn (e.trans hw)
  rw[hw] at e;injection e with e;simp at e;omega
 refine⟨by rw[List.length_append,List.map_append];exact hown,⟨xs,qyE h1 (fun j e _ hj=>qyl hg hj (fun e2=>h.apart j e2.symm e)),fun i d hd => ?_⟩,fun g e1 e2 => ?_⟩
 ·obtain⟨a,e1,e2⟩:=h2 i d hd;exact⟨a,e1,e2.same (fun j hj=>⟨hj.1,by have:=hj.2.1;omega,hj.2.2.1,hne j hj.2.1 hj.2.2.2⟩) (fun j hj=>qyl hg hj.2.1 hj.2.2.2)⟩
 rcases hw with hw|hw
 ·exact h.apart g (hw.symm.trans e1) e2
 have:=qy1 h1 e2;rw[hw] at e1;injection e1 with e1;simp at e1;omega
theorem q0l.kid {L:Nat}{d:DataW Unit}{xs:List Value}(h:q0l k V b kv u kl ds)(h1:V.ownsRow b 93 5 u ds.length xs)(h2:∀(i:Nat) (d:DataW Unit),ds[i]? = some d→∃a,qzH xs i a∧qyi k V (fun j=>b≤j∧j<V.heap.size∧some j≠u.ownBlock∧¬some j=kv.ownBlock) (.agg a) d)(hkid:qyi k V (fun j=>L≤j∧j<V.heap.size) (.agg a) d)(hL:∀g,u.ownBlock=some g→g<L)(hK:∀g,kv.ownBlock=some g→g<L)(hb:b≤L)(ha:a.size=5)(hown:w5.ownsRow b 93 5 v' (ds.length+1) (xs++a.toList))(hg:(V.alloc o).grownBy w5 u.ownBlock)(hw:v'.ownBlock=u.ownBlock∨v'.ownBlock=some (V.alloc o).heap.size):q0l k w5 b kv v' kl (ds++[d]):=by
 refine⟨qyE h.keys (fun j e _ hj=>qyl hg hj (fun e2=>h.apart j e e2.symm)),qys.push (L:=L) h1 h2 hkid hL hb (fun j hj e=>by have:=hK j e.symm;omega) ha hown hg hw,fun g e1 e2 => ?_⟩;rcases hw with hw|hw
 ·exact h.apart g e1 (hw.symm.trans e2)
 have:=qy1 h.keys e1;rw[hw] at e2;injection e2 with e2;simp at e2;omega
def maB (r:Except (Int×Int) (List (Lit×DataW Unit)×Nat)):Except (Int×Int) (DataW Unit×Nat):=match r with
 |.error e=>.error e
 |.ok (es,q)=>.ok (.map es,q)
structure PqS (W wr:World)(A H y:Array Value)(M:Nat)(G:Array Value)(F:Int×Int)(V:World):Prop where
 pr:qy9 W A H y V
 fl:V.heap[M+1]? = some (.cells (qqp F) 95)
 hd:V.heap[M]? = some (.cells G 294)
 bl:Below wr.heap.size wr V
 lm:wr.heap.size≤M
theorem PqS.next (h:PqS W wr A H y M G F V)(hb:Below V.heap.size V V'):PqS W wr A H y M G F V' :=
 ⟨h.pr.next hb,(hb.block _ (ltA h.fl)).trans h.fl,(hb.block _ (ltA h.hd)).trans h.hd,h.bl.trans (hb.mono h.bl.size),h.lm⟩
theorem PqS.ck {f:FuncId}{args:Array Value}{r:Ending}{Q:Ending→World→Prop}{a q:Int}{o:Bool}(h:PqS W wr (inA bs fm d l) H y M (hdC a n q o) F V)(c:Calls prog f args V fun e W'=>e=r∧Below V.heap.size V W')(k:∀w,Hid (PqS W wr (inA bs fm d l) H y M (hdC a n q o) F w)→w.cell? ⟨W.heap.size,0,none⟩=(#[.string ⟨bs.toArray⟩,.int .i64 fm,.int .i64 d,.int .i64 l]:Array Value)[0]?→w.cell? ⟨W.heap.size,1,none⟩=(#[.string ⟨bs.toArray⟩,.int .i64 fm,.int .i64 d,.int .i64 l]:Array Value)[1]?→w.cell? ⟨W.heap.size,2,none⟩=(#[.string ⟨bs.toArray⟩,.int .i64 fm,.int .i64 d,.int .i64 l]:Array Value)[2]?→w.cell? ⟨W.heap.size,3,none⟩=(#[.string ⟨bs.toArray⟩,.int .i64 fm,.int .i64 d,.int .i64 l]:Array Value)[3]?→w.cell? ⟨M,1,none⟩=some (.int .i64 n)→w.cell? ⟨M,2,none⟩=some (.int .i64 q)→w.cell? ⟨M+1,0,none⟩=some (.int .i64 F.1)→Q r w):Calls prog f args V Q :=
 _root_.Go.Proofs.YtllcbnfmihfaaaaGreatDoor.ck c h.next fun w H=>k w H (qyf H.out.pr.box).1 (qyf H.out.pr.box).2.1 (qyf H.out.pr.box).2.2.1 (qyf H.out.pr.box).2.2.2 (qab H.out.hd 1) (qab H.out.hd 2) (qab H.out.fl 0)
theorem PqS.st {ops:Array Oper}{rest:List Oper}{p:Oper}{A:Act}{Q:Exit→Act→World→Prop}{uv:Value}(h:PqS W wr (inA bs fm d l) H (thA 7 0 ⟨#[]⟩ kv uv) M G (0,0) V)(hM:W.heap.size+5≤M)(x y:Nat)(hgd:p.guard=none)(ho:p.op=.store 95 (.tmp x) (.tmp y))(F:Int×Int)(hh:A.eval (.tmp x)=.pointer (some ⟨M+1,0,none⟩)∧A.eval (.tmp y)=.agg (qqp F))(k:∀w,Hid (PqS W wr (inA bs fm d l) H (thA 7 0 ⟨#[]⟩ kv uv) M G F w)→w.cell? ⟨W.heap.size,0,none⟩=(#[.string ⟨bs.toArray⟩,.int .i64 fm,.int .i64 d,.int .i64 l]:Array Value)[0]?→w.cell? ⟨W.heap.size,1,none⟩=(#[.string ⟨bs.toArray⟩,.int .i64 fm,.int .i64 d,.int .i64 l]:Array Value)[1]?→w.cell? ⟨W.heap.size,2,none⟩=(#[.string ⟨bs.toArray⟩,.int .i64 fm,.int .i64 d,.int .i64 l]:Array Value)[2]?→w.cell? ⟨W.heap.size,3,none⟩=(#[.string ⟨bs.toArray⟩,.int .i64 fm,.int .i64 d,.int .i64 l]:Array Value)[3]?→w.cell? ⟨W.heap.size+1+1+1+1,3,none⟩=some kv→w.cell? ⟨M+1,0,none⟩=some (.int .i64 F.1)→wpList prog ops Q rest (A.put p.dst undef) w):wpList prog ops Q (p::rest) A V:=by
 have h2:PqS W wr (inA bs fm d l) H (thA 7 0 ⟨#[]⟩ kv uv) M G F (V.setRow (M+1) (qqp F)):=⟨h.pr.else _ (by omega) _,setRow_heap _ _ _ _ _ _ h.fl,sx (by omega) h.hd,qah h.bl (by have:=h.lm;omega) _,h.lm⟩
 exact zF x y hgd ho (M+1) F ⟨hh.1,hh.2,h.fl⟩ (k _ h2 (qyf h2.pr.box).1 (qyf h2.pr.box).2.1 (qyf h2.pr.box).2.2.1 (qyf h2.pr.box).2.2.2 (qab h2.pr.tv 3) (qab h2.fl 0))
theorem q4p (k:Nat)(W:World)(bs:List UInt8)(fm d l lim:Int)(q0 x:Nat)(n:Int)(o:Bool)(dp:Int)(hn:n=min (x:Int) 9223372036854775807)(hl:Lm bs l lim)(hi:InR bs lim q0)(hb:bs.length≤200000000)(hd0:0≤dp)(hd1:dp≤100000)(hfm:fm=2∨fm=3)(rd:Nat→Except (Int×Int) (DataW Unit×Nat))(hbad:∀p,Bad (rd p))(hgo:∀p x q,rd p=.ok (x,q)→p<q)(cJ:∀V (p:Nat),InR bs lim p→Calls prog 116 #[.agg (inA bs fm d l),.int .i64 p,.int .i64 (dp+1)] V (qyp k bs lim V (rd p))):Calls prog 177 #[.agg (inA bs fm d l),.agg (hdC 7 n (q0:Int) o),.int .i64 dp] W (qyp (k+1) bs lim W (maB (qaI (qfr (hdO fm) bs lim) rd x q0 [] []))):=by
 obtain⟨ti,hti,ht0,ht1,ht2⟩:=info_parts Tryz.infoThR;obtain⟨si,hsi,hs0,hs1,hs2⟩:=info_parts Tryz.infoStrR;obtain⟨R,HR⟩:∃R,Hid (qaI (qfr (hdO fm) bs lim) rd x q0 [] []=R):=⟨_,show _=_ from rfl⟩
 rw[HR.out];have HL:Hid (Lm bs l lim):=hl;have HI:Hid (InR bs lim q0):=hi;have HN:Hid (n=min (x:Int) 9223372036854775807):=hn;have cH:=qzv bs fm d l;have cB:=qzy bs fm d l;have HCJ:Hid (∀V (p:Nat),InR bs lim p→Calls prog 116 #[.agg #[.string ⟨bs.toArray⟩,.int .i64 fm,.int .i64 d,.int .i64 l],.int .i64 p,.int .i64 (dp+1)] V (qyp k bs lim V (rd p))):=cJ;have HGO:Hid (∀p x q,rd p=.ok (x,q)→p<q):=hgo;have HBAD:Hid (∀p,Bad (rd p)):=hbad;have HFM:Hid (fm=2∨fm=3):=hfm;clear hfm;clear hl hi cJ hgo hbad hn;unfold inA hdC;go_enter func177,ntmps177
 go_wp2_with (first
  |((with_reducible refine zT 9 22 rfl rfl (W.heap.size+4) (thA 7 0 ⟨#[]⟩ qxE qxE) ?_ ?_);exact⟨rfl,rfl,(q2E W _ _).tv,thg⟩;refine nmd ?_;intro V0 EV0;have HX:Hid (qy9 W (inA bs fm d l) (hdC 7 n (q0:Int) o) (thA 7 0 ⟨#[]⟩ qxE qxE) V0):=EV0▸(q2E W _ _).row _;clear EV0;obtain⟨c0,c1,c2,c3⟩:=qyf HX.out.box;have d0:V0.cell? ⟨W.heap.size+1,0,none⟩=some (.int .i64 7):=qab HX.out.hd 0;have d1:V0.cell? ⟨W.heap.size+1,1,none⟩=some (.int .i64 n):=qab HX.out.hd 1;have d2:V0.cell? ⟨W.heap.size+1,2,none⟩=some (.int .i64 (q0:Int)):=qab HX.out.hd 2))
 go_loopg [10,11] (bs.length+1-q0) (fun g z10 z11 wr=>∃(p kj:Nat) (kl:List (List UInt8)) (ds:List (DataW Unit)) (ka:Option Addr) (kn kc:Nat) (ua:Option Addr) (un uc:Nat),z10=.int .i64 p∧z11=.int .i64 kj∧Hid (bs.length+1≤p+g)∧Hid (InR bs lim p)∧Hid (kj≤p∧kj≤x)∧Hid (ds.length=kj∧kl.length=kj)∧Hid (qaI (qfr (hdO fm) bs lim) rd (x-kj) p kl.reverse (esZ kl ds)=R)∧Hid (qy9 W (inA bs fm d l) (hdC 7 n (q0:Int) o) (thA 7 0 ⟨#[]⟩ (.slice ka kn kc) (.slice ua un uc)) wr)∧Hid (q0l k wr (W.heap.size+5) (.slice ka kn kc) (.slice ua un uc) kl ds))
 case atStart=>exact⟨q0,0,[],[],none,0,0,none,0,0,rfl,rfl,by show _≤_;omega,HI,⟨Nat.zero_le _,Nat.zero_le _⟩,⟨rfl,rfl⟩,HR,HX,q61 _ _ _⟩
 case round =>
  clear HR HX HI c0 c1 c2 c3 d0 d1 d2;obtain⟨p,kj,kl,ds,ka,kn,kc,ua,un,uc,rfl,rfl,hg,HI,HK,HDS,HR,HX,HKD⟩:=hrel;have hp0:=HI.out.1;have hkp:=HK.out.1;have hwr:=HX.out.size;obtain⟨c0,c1,c2,c3⟩:=qyf HX.out.box;have d0:wr.cell? ⟨W.heap.size+1,0,none⟩=some (.int .i64 7):=qab HX.out.hd 0;have d1:wr.cell? ⟨W.heap.size+1,1,none⟩=some (.int .i64 n):=qab HX.out.hd 1;have d2:wr.cell? ⟨W.heap.size+1,2,none⟩=some (.int .i64 (q0:Int)):=qab HX.out.hd 2;by_cases hkx:kj=x
  ·have hlt:¬(kj:Int)<n:=by have:=HN.out;omega
   have HE:Hid (R=.ok (esZ kl ds,p)):=by
    show _=_;rw[←HR.out,hkx,Nat.sub_self];rfl
   clear HR hg
   go_wp2_with (first
    |((with_reducible refine wpList_load_row rfl 93 (.tmp 9) rfl (W.heap.size+4) ?hx 93 (#[.int .i64 7,.int .i64 0,.string ⟨#[]⟩,.slice ka kn kc,.slice ua un uc]) (0,0) _ ?hg underlying93 rfl ?hi ?_);(case hx=>exact rfl);(case hg=>exact HX.out.tv);(case hi=>exact qyL))
    |((with_reducible refine zT 6 111 rfl rfl (W.heap.size+2) (thA 7 0 ⟨#[]⟩ (.slice ka kn kc) (.slice ua un uc)) ?_ ?_);exact⟨rfl,rfl,HX.out.th,thg⟩)
    |((with_reducible refine zF 8 113 rfl rfl (W.heap.size+3) (0,0) ?_ ?_);exact⟨rfl,rfl,sx (by omega) HX.out.flt⟩))
   have hf:=HX.out.fin (thA 7 0 ⟨#[]⟩ (.slice ka kn kc) (.slice ua un uc)) (0,0);refine eoT results177 hf (.int .i64 p) rfl rfl rfl rfl ⟨hf.2.2,?_⟩;rw[HE.out];exact⟨HI.out,_,_,_,_,_,_,_,_,_,rfl,(HKD.out.next (by simp) (fun j hj1 hj2=>by rw[setRow_other _ _ _ _ (by omega),setRow_other _ _ _ _ (by omega)])).map (by have:=HDS.out;omega) (by omega)⟩
  have hkx2:kj<x:=by have:=HK.out.2;omega
  have hlt:(kj:Int)<n:=by have:=HN.out;omega
  have t7:((7:Int)==7)=true:=rfl;have hH:=fun V=>q2G V bs fm d l lim p HL.out HI.out hb HFM.out
  go_wp2_with fail
  refine(hH _).mono ?_;clear c0 c1 c2 c3 d0 d1 d2 hH;rintro e w6 ⟨⟨a,hn,hq,ho,F,rfl,h1,h2⟩,hB6⟩;have HX6:=qaa (HX.out.next hB6);have HB6:Hid (Below wr.heap.size wr w6):=hB6;have hs6:=hB6.size;clear hB6;simp only[];have hent:∀f,qfr (hdO fm) bs lim kl.reverse p=.error f→R=.error f:=fun f hf=>by
   rw[←HR.out,show x-kj=(x-kj-1)+1 by omega,qaI,hf]
  have cH1:=fun V=>cH V p
  go_wp2_with (first
   |((with_reducible refine zH 12 38 rfl rfl (w6.heap.size) a hn hq ho ?_ ?_);exact⟨rfl,rfl,(qxI w6 _ _).1⟩)
   |((with_reducible refine zF 13 39 rfl rfl (w6.heap.size+1) F ?_ ?_);exact⟨rfl,rfl,sx (by omega) (qxI w6 _ _).2⟩;refine nmd ?_;intro V7 EV7;have HS:Hid (PqS W wr (inA bs fm d l) (hdC 7 n (q0:Int) o) (thA 7 0 ⟨#[]⟩ (.slice ka kn kc) (.slice ua un uc)) w6.heap.size (hdC a hn hq ho) F V7):=EV7▸⟨HX6.out.next (qxL _ _ _ _ _),qzi,q0p,HB6.out.trans ((qxL _ _ _ _ _).mono HB6.out.size),HB6.out.size⟩;clear EV7;generalize w6.heap.size=M at *;obtain⟨c0,c1,c2,c3⟩:=qyf HS.out.pr.box;have g1:V7.cell? ⟨M,1,none⟩=some (.int .i64 hn):=qab HS.out.hd 1;have g2:V7.cell? ⟨M,2,none⟩=some (.int .i64 hq):=qab HS.out.hd 2;have u0:V7.cell? ⟨M+1,0,none⟩=some (.int .i64 F.1):=qab HS.out.fl 0))
  have hM5:W.heap.size+5≤M:=by have:=HS.out.lm;omega
  rcases qyF (bs:=bs) (lim:=lim) p with hno|⟨c,hc,hp⟩
  ·have hbr:hdR fm bs lim p=.error (qr0 bs l p 9)∧qfr (hdO fm) bs lim kl.reverse p=.error (qr0 bs l p 9)∧qyb bs l p=false∧¬(qr0 bs l p 9).1=0:=by
    unfold hdR qfr;rcases hno with hc|⟨c,hc,hp⟩
    ·rw[hc,qxY HI.out.1 hc];exact⟨rfl,rfl,qxS hc,by simp⟩
    rw[hc,qxW HL.out hc hp];simp only[];rw[if_pos hp,if_pos hp];exact⟨rfl,rfl,qyg HL.out hc hp,by simp⟩
   obtain rfl:=h2 _ hbr.1;have HE:Hid (R=.error (qr0 bs l p 9)):=hent _ hbr.2.1;have hne:((qr0 bs l p 9).1==0)=false:=by simpa using hbr.2.2.2
   rw[hbr.2.2.1] at cH1;clear HR hno hbr h1 h2 hent cH cB;generalize qr0 bs l p 9=xx at *
   go_wp2_with (first
    |(go_at_call 113;refine HS.out.ck (cH1 _) ?_;clear cH1 c0 c1 c2 c3 u0 g1 g2 HS;intro w8 HS c0 c1 c2 c3 g1 g2 u0))
   refine rgn (S:=fun Z=>Z.heap[M+1]? = some (.cells (qqp xx) 95)) (HS.out.fl) (by kernel_rfl) ?_;intro hS;refine tk 1 57 (.agg (qqp xx)) rfl (by kernel_rfl) iQ3 (fun Z hZ=>yF 13 hZ rfl rfl) hS ?_;refine tk 0 56 (.agg th0) rfl (by kernel_rfl) iQ3 (fun Z hZ => ?y0) hS ?_
   case y0=>(unfold th0 thA qxE;go_simp)
   have hS3:=(setRow_other _ (W.heap.size+2) (M+1) th0 (by omega)).trans hS;refine sTh 2 6 56 (W.heap.size+2) (th0) (by kernel_rfl) (HS.out.pr.drew.th) thg (hS3) ?_;refine tkk 3 7 (.int .i64 0) (by kernel_rfl) iQ3 hS3 ?_;refine sF 4 8 57 (W.heap.size+3) xx (by kernel_rfl) (sx (by omega) HS.out.pr.drew.flt) (sx (by omega) hS3) ?_;refine wpAnyH_done (by kernel_rfl) ?_ _;go_simp;go_wp2;have hf:=HS.out.pr.drew.fin (th0) (xx);refine eoT results177 hf (.int .i64 0) rfl rfl rfl rfl ⟨hf.2.2,?_⟩;rw[HE.out];exact⟨_,_,_,_,_,_,_,_,_,_,rfl⟩
  have hh:=qxO HL.out HI.out hc hp;rw[hh] at cH1;have hn1:=qxJ HI.out hc hp;have cT1:=fun V=>q3f V bs fm d l p c hc HFM.out;by_cases hso:(hdO fm c.toNat).1=8
  ·rw[decide_eq_true hso] at cT1;have hkey:qfr (hdO fm) bs lim kl.reverse p=match qd9 bs lim (hdO fm c.toNat).2.1 (p+1) (hdO fm c.toNat).2.2 with
     |.error e=>.error e
     |.ok (x,q)=>match qfg bs lim x q [] 0 with
      |.error e=>.error e
      |.ok (l,r)=>if l∈kl.reverse then .error (12,(r:Int)-1) else .ok (l,r):=by
    unfold qfr;rw[hc];simp only[];rw[if_neg hp,if_pos hso];rfl
   have hhd:hdR fm bs lim p=match qd9 bs lim (hdO fm c.toNat).2.1 (p+1) (hdO fm c.toNat).2.2 with
     |.error f=>.error f
     |.ok (x,q)=>.ok (8,(hdO fm c.toNat).2.1,x,q):=by
    unfold hdR;rw[hc];simp only[];rw[if_neg hp,hso,if_neg (by decide)];rfl
   cases har:qd9 bs lim (hdO fm c.toNat).2.1 (p+1) (hdO fm c.toNat).2.2 with
   |error f =>
    rw[har] at hkey hhd;obtain rfl:=h2 _ hhd;have HE:Hid (R=.error F):=hent _ hkey;have hne:(F.1==0)=false:=by
     have:=qii bs lim _ _ _ F.1 F.2 har;simpa using this
    clear HR hc hp hh h1 h2 hent hkey hhd har hso cH cB
    go_wp2_with (first
     |(go_at_call 113;refine HS.out.ck (cH1 _) ?_;clear cH1 c0 c1 c2 c3 u0 g1 g2 HS;intro w8 HS c0 c1 c2 c3 g1 g2 u0)
     |(go_at_call 209;refine HS.out.ck (cT1 _) ?_;clear cT1 c0 c1 c2 c3 u0 g1 g2 HS;intro w9 HS c0 c1 c2 c3 g1 g2 u0))
    refine rgn (S:=fun Z=>Z.heap[M+1]? = some (.cells (qqp F) 95)) (HS.out.fl) (by kernel_rfl) ?_;intro hS;refine tk 1 57 (.agg (qqp F)) rfl (by kernel_rfl) iQ3 (fun Z hZ=>yF 13 hZ rfl rfl) hS ?_;refine tk 0 56 (.agg th0) rfl (by kernel_rfl) iQ3 (fun Z hZ => ?y0) hS ?_
    case y0=>(unfold th0 thA qxE;go_simp)
    have hS3:=(setRow_other _ (W.heap.size+2) (M+1) th0 (by omega)).trans hS;refine sTh 2 6 56 (W.heap.size+2) (th0) (by kernel_rfl) (HS.out.pr.drew.th) thg (hS3) ?_;refine tkk 3 7 (.int .i64 0) (by kernel_rfl) iQ3 hS3 ?_;refine sF 4 8 57 (W.heap.size+3) F (by kernel_rfl) (sx (by omega) HS.out.pr.drew.flt) (sx (by omega) hS3) ?_;refine wpAnyH_done (by kernel_rfl) ?_ _;go_simp;go_wp2;have hf:=HS.out.pr.drew.fin (th0) (F);refine eoT results177 hf (.int .i64 0) rfl rfl rfl rfl ⟨hf.2.2,?_⟩;rw[HE.out];exact⟨_,_,_,_,_,_,_,_,_,_,rfl⟩
   |ok y =>
    obtain⟨x1,q1⟩:=y;rw[har] at hkey hhd;obtain⟨rfl,rfl,rfl,rfl,rfl⟩:=h1 _ _ _ _ hhd;obtain⟨hq1p,hq1⟩:=qyU _ _ _ _ _ hn1 har;simp only[] at hkey;have hnv:nR 8 (hdO fm c.toNat).2.1 x1=min (x1:Int) 9223372036854775807:=rfl;have cR:=fun V=>q2F V bs fm d l lim q1 x1 (nR 8 (hdO fm c.toNat).2.1 x1) hnv HL.out hq1 hb;generalize nR 8 (hdO fm c.toNat).2.1 x1=nv at *;have hpq1:p<q1:=by omega
    clear hhd hq1p hso hh h1 h2 hnv
    cases hbt:qfg bs lim x1 q1 [] 0 with
    |error f =>
     rw[hbt] at hkey cR;have HE:Hid (R=.error f):=hent _ hkey;have hne:(f.1==0)=false:=by
      have:=qhA bs lim _ _ _ _ f.1 f.2 hbt;simpa using this
     have cR1:=cR;dsimp only [inA,q2a] at cR1;clear HR hc hp hent hkey har hbt cR cH cB
     go_wp2_with (first
      |(go_at_call 113;refine HS.out.ck (cH1 _) ?_;clear cH1 c0 c1 c2 c3 u0 g1 g2 HS;intro w8 HS c0 c1 c2 c3 g1 g2 u0)
      |(go_at_call 209;refine HS.out.ck (cT1 _) ?_;clear cT1 c0 c1 c2 c3 u0 g1 g2 HS;intro w9 HS c0 c1 c2 c3 g1 g2 u0)
      |(go_at_call 176;refine HS.out.ck (cR1 _) ?_;clear cR1 c0 c1 c2 c3 u0 g1 g2 HS;intro w10 HS c0 c1 c2 c3 g1 g2 u0)
      |((with_reducible refine HS.out.st hM5 13 67 rfl rfl f ?_ ?_);exact⟨rfl,rfl⟩;clear c0 c1 c2 c3 u0 g1 g2 HS;intro V11 HS c0 c1 c2 c3 k3 u0))
     refine rgn (S:=fun Z=>Z.heap[M+1]? = some (.cells (qqp f) 95)) (HS.out.fl) (by kernel_rfl) ?_;intro hS;refine tk 1 72 (.agg (qqp f)) rfl (by kernel_rfl) iQ3 (fun Z hZ=>yF 13 hZ rfl rfl) hS ?_;refine tk 0 71 (.agg th0) rfl (by kernel_rfl) iQ3 (fun Z hZ => ?y0) hS ?_
     case y0=>(unfold th0 thA qxE;go_simp)
     have hS3:=(setRow_other _ (W.heap.size+2) (M+1) th0 (by omega)).trans hS;refine sTh 2 6 71 (W.heap.size+2) (th0) (by kernel_rfl) (HS.out.pr.drew.th) thg (hS3) ?_;refine tkk 3 7 (.int .i64 0) (by kernel_rfl) iQ3 hS3 ?_;refine sF 4 8 72 (W.heap.size+3) f (by kernel_rfl) (sx (by omega) HS.out.pr.drew.flt) (sx (by omega) hS3) ?_;refine wpAnyH_done (by kernel_rfl) ?_ _;go_simp;go_wp2;have hf:=HS.out.pr.drew.fin (th0) (f);refine eoT results177 hf (.int .i64 0) rfl rfl rfl rfl ⟨hf.2.2,?_⟩;rw[HE.out];exact⟨_,_,_,_,_,_,_,_,_,_,rfl⟩
    |ok y =>
     obtain⟨tt,r⟩:=y;rw[hbt] at hkey cR;obtain⟨hri,hqr⟩:=q1h _ _ _ _ _ _ hq1 hbt;have hrl:=hri.1;simp only[List.mem_reverse] at hkey;have cR1:=cR;dsimp only [inA,q2a] at cR1;have hkl:kl.length≤200000000:=by have:=HDS.out;omega
     have cHo0:∀V,q0l k V (W.heap.size+5) (.slice ka kn kc) (.slice ua un uc) kl ds→Calls prog 210 #[.slice ka kn kc,.string ⟨tt.toArray⟩] V fun e W'=>e=.returned (.bool (decide (tt∈kl)))∧V=W':=fun V h=>(qzm V (fun _=>True) _ kl tt (qyq h.keys _ (fun _ _ _=>trivial)) hkl).mono fun e W' h=>⟨h.1,h.2.symm⟩
     have hpr:p<r:=by omega
     clear cR;by_cases hin:tt∈kl
     ·rw[if_pos hin] at hkey;have HE:Hid (R=.error (12,(r:Int)-1)):=hent _ hkey;have cHo:∀V,q0l k V (W.heap.size+5) (.slice ka kn kc) (.slice ua un uc) kl ds→Calls prog 210 #[.slice ka kn kc,.string ⟨tt.toArray⟩] V fun e W'=>e=.returned (.bool true)∧V=W':=by
       rw[decide_eq_true hin] at cHo0;exact cHo0
      have cB1:∀V,Calls prog 71 #[.agg #[.string ⟨bs.toArray⟩,.int .i64 fm,.int .i64 d,.int .i64 l],.int .i64 ((r:Int)-1),.int .i64 12] V fun e W'=>e=.returned (.agg (qqp (12,(r:Int)-1)))∧Below V.heap.size V W':=fun V=>by
       obtain⟨r0,rfl⟩:∃r0,r=r0+1:=⟨r-1,by omega⟩
       have h:=cB V r0 12;rw[q1n HL.out hri,show(r0:Int)=((r0+1:Nat):Int)-1 by omega] at h;exact h
      clear HR hc hp hent hkey har hbt hri cHo0 hin cH cB
      go_wp2_with (first
       |(go_at_call 113;refine HS.out.ck (cH1 _) ?_;clear cH1 c0 c1 c2 c3 u0 g1 g2 HS;intro w8 HS c0 c1 c2 c3 g1 g2 u0)
       |(go_at_call 209;refine HS.out.ck (cT1 _) ?_;clear cT1 c0 c1 c2 c3 u0 g1 g2 HS;intro w9 HS c0 c1 c2 c3 g1 g2 u0)
       |(go_at_call 176;refine HS.out.ck (cR1 _) ?_;clear cR1 c0 c1 c2 c3 u0 g1 g2 HS;intro w10 HS c0 c1 c2 c3 g1 g2 u0)
       |(go_at_call 210;refine(cHo _ (HKD.out.next HS.out.bl.size (fun j _ hj=>HS.out.bl.block j hj))).mono ?_;clear cHo;rintro e w12 ⟨rfl,rfl⟩)
       |(go_at_call 71;refine ck (cB1 _) HS.out.pr.next ?_;clear cB1 c0 c1 c2 c3 u0 k3;intro w13 HX13)
       |((with_reducible refine HS.out.st hM5 13 67 rfl rfl (0,0) ?_ ?_);exact⟨rfl,rfl⟩;clear c0 c1 c2 c3 u0 g1 g2 HS;intro V11 HS c0 c1 c2 c3 k3 u0)
       |((with_reducible refine zT 6 78 rfl rfl (W.heap.size+2) (th0) ?_ ?_);exact⟨rfl,rfl,HX13.out.th,thg⟩)
       |((with_reducible refine zF 8 82 rfl rfl (W.heap.size+3) (12,(r:Int)-1) ?_ ?_);exact⟨rfl,rfl,sx (by omega) HX13.out.flt⟩))
      have hf:=HX13.out.fin (th0) (12,(r:Int)-1);refine eoT results177 hf (.int .i64 0) rfl rfl rfl rfl ⟨hf.2.2,?_⟩;rw[HE.out];exact⟨_,_,_,_,_,_,_,_,_,_,rfl⟩
     rw[if_neg hin] at hkey;have cHo:∀V,q0l k V (W.heap.size+5) (.slice ka kn kc) (.slice ua un uc) kl ds→Calls prog 210 #[.slice ka kn kc,.string ⟨tt.toArray⟩] V fun e W'=>e=.returned (.bool false)∧V=W':=by
      rw[decide_eq_false hin] at cHo0;exact cHo0
     have HPI:Hid (InR bs lim r):=hri;have HKEY:Hid (qfr (hdO fm) bs lim kl.reverse p=.ok (tt,r)):=hkey;clear hc hp hent hkey har hbt hri cHo0 hin cH cB
     go_wp2_with (first
      |(go_at_call 113;refine HS.out.ck (cH1 _) ?_;clear cH1 c0 c1 c2 c3 u0 g1 g2 HS;intro w8 HS c0 c1 c2 c3 g1 g2 u0)
      |(go_at_call 209;refine HS.out.ck (cT1 _) ?_;clear cT1 c0 c1 c2 c3 u0 g1 g2 HS;intro w9 HS c0 c1 c2 c3 g1 g2 u0)
      |(go_at_call 176;refine HS.out.ck (cR1 _) ?_;clear cR1 c0 c1 c2 c3 u0 g1 g2 HS;intro w10 HS c0 c1 c2 c3 g1 g2 u0)
      |(go_at_call 210;refine(cHo _ (HKD.out.next HS.out.bl.size (fun j _ hj=>HS.out.bl.block j hj))).mono ?_;clear cHo;rintro e w12 ⟨rfl,rfl⟩;have HM11:Hid (q0l k V11 (W.heap.size+5) (.slice ka kn kc) (.slice ua un uc) kl ds):=HKD.out.next HS.out.bl.size (fun j _ hj=>HS.out.bl.block j hj))
      |((with_reducible refine HS.out.st hM5 13 67 rfl rfl (0,0) ?_ ?_);exact⟨rfl,rfl⟩;clear c0 c1 c2 c3 u0 g1 g2 HS;intro V11 HS c0 c1 c2 c3 k3 u0)
      |(at_builtin;(refine qaX _ rfl _ _ 57 rfl (W.heap.size+5) 9 si (.string ByteArray.empty) 1 16 underlying57 hsi hs0 hs1 hs2 rfl (by decide) _ _ _ rfl (HM11.out.keys.alloc _) ⟨V11.heap.size,0,none⟩ 1 1 [.string ⟨tt.toArray⟩] rfl rfl (qag _ _ _) (q4r _) (by decide) (by unfold maxLen;omega) (by omega) (by have:=HS.out.pr.size;simp;omega) ?_);intro v' w13 hown1 hg1 hw1;obtain⟨g1,cap1,rfl⟩:=ownsRow_succ hown1;have HX13:Hid (qy9 W (inA bs fm d l) (hdC 7 n (q0:Int) o) (thA 7 0 ⟨#[]⟩ (.slice ka kn kc) (.slice ua un uc)) w13):=HS.out.pr.grow (fun g e=>qbA HM11.out.keys e) hg1;have HM13:Hid (q0l k w13 (W.heap.size+5) (.slice (some ⟨g1,0,none⟩) (kl.length+1) cap1) (.slice ua un uc) (kl++[tt]) ds):=HM11.out.key hown1 hg1 hw1;clear hown1 hg1 hw1 c0 c1 c2 c3 k3 u0;have k3:w13.cell? ⟨W.heap.size+1+1+1+1,3,none⟩=some (.slice ka kn kc):=qab HX13.out.tv 3;have f3:w13.frozen? ⟨W.heap.size+1+1+1+1,3,none⟩=false:=frozen_of_row w13 (W.heap.size+4) 3 _ _ HX13.out.tv;obtain⟨c0,c1,c2,c3⟩:=qyf HX13.out.box))
     have HX14:Hid (qy9 W (inA bs fm d l) (hdC 7 n (q0:Int) o) (thA 7 0 ⟨#[]⟩ (.slice (some ⟨g1,0,none⟩) (kl.length+1) cap1) (.slice ua un uc)) (w13.setCell ⟨W.heap.size+1+1+1+1,3,none⟩ (.slice (some ⟨g1,0,none⟩) (kl.length+1) cap1))):=(HX13.out.cell _).1;have HM14:Hid (q0l k (w13.setCell ⟨W.heap.size+1+1+1+1,3,none⟩ (.slice (some ⟨g1,0,none⟩) (kl.length+1) cap1)) (W.heap.size+5) (.slice (some ⟨g1,0,none⟩) (kl.length+1) cap1) (.slice ua un uc) (kl++[tt]) ds):=HM13.out.next (by simp[World.setCell]) (fun j hj1 hj2=>heap_setCell_other w13 _ _ _ (by simp;omega))
     generalize w13.setCell ⟨W.heap.size+1+1+1+1,3,none⟩ (.slice (some ⟨g1,0,none⟩) (kl.length+1) cap1)=V14 at *;clear HX13 HM13 HM11 HS HX6 HB6 k3 f3;refine(HCJ.out _ r HPI.out).mono ?_;clear c0 c1 c2 c3;rintro e w2 ⟨hB2,he⟩;have HX4:=qaa (HX14.out.next hB2);have HKD4:=qaa (HM14.out.next hB2.size (fun j _ hj=>hB2.block j hj));have hs2:=hB2.size;have hwi:=HX14.out.size
     cases hr:rd r with
     |error f =>
      rw[hr] at he;obtain⟨kk,nn,s,a1,i1,j1,b1,q1,m1,z,rfl⟩:=he;have hne:(f.1==0)=false:=by
       have:=HBAD.out r f.1 f.2 hr;simpa using this
      have HE:Hid (R=.error f):=by
       show _=_;rw[←HR.out,show x-kj=(x-kj-1)+1 by omega,qaI,HKEY.out];simp only[];rw[hr]
      clear HR hr;simp only[]
      go_wp2_with (first
       |((with_reducible refine zT 17 96 rfl rfl (w2.heap.size) (thA kk nn s (.slice a1 i1 j1) (.slice b1 q1 m1)) ?_ ?_);exact⟨rfl,rfl,(qxI w2 _ _).1,thg⟩)
       |((with_reducible refine zF 19 98 rfl rfl (w2.heap.size+1) (f) ?_ ?_);exact⟨rfl,rfl,sx (by omega) (qxI w2 _ _).2⟩;refine nmd ?_;intro V5 EV5;have HX5:Hid (qy9 W (inA bs fm d l) (hdC 7 n (q0:Int) o) (thA 7 0 ⟨#[]⟩ (.slice (some ⟨g1,0,none⟩) (kl.length+1) cap1) (.slice ua un uc)) V5):=EV5▸HX4.out.next (qxL _ _ _ _ _);have HF5:Hid (V5.heap[w2.heap.size+1]? = some (.cells (qqp (f)) 95)):=EV5▸qzi;clear EV5;obtain⟨c0,c1,c2,c3⟩:=qyf HX5.out.box;have u0:V5.cell? ⟨w2.heap.size+1,0,none⟩=some (.int .i64 (f.1)):=qab HF5.out 0))
      refine rgn (S:=fun Z=>Z.heap[w2.heap.size+1]? = some (.cells (qqp f) 95)) (HF5.out) (by kernel_rfl) ?_;intro hS;refine tk 1 103 (.agg (qqp f)) rfl (by kernel_rfl) iQ3 (fun Z hZ=>yF 19 hZ rfl rfl) hS ?_;refine tk 0 102 (.agg th0) rfl (by kernel_rfl) iQ3 (fun Z hZ => ?y0) hS ?_
      case y0=>(unfold th0 thA qxE;go_simp)
      have hS3:=(setRow_other _ (W.heap.size+2) (w2.heap.size+1) th0 (by omega)).trans hS;refine sTh 2 6 102 (W.heap.size+2) (th0) (by kernel_rfl) (HX5.out.drew.th) thg (hS3) ?_;refine tkk 3 7 (.int .i64 0) (by kernel_rfl) iQ3 hS3 ?_;refine sF 4 8 103 (W.heap.size+3) f (by kernel_rfl) (sx (by omega) HX5.out.drew.flt) (sx (by omega) hS3) ?_;refine wpAnyH_done (by kernel_rfl) ?_ _;go_simp;go_wp2;have hf:=HX5.out.drew.fin (th0) (f);refine eoT results177 hf (.int .i64 0) rfl rfl rfl rfl ⟨hf.2.2,?_⟩;rw[HE.out];exact⟨_,_,_,_,_,_,_,_,_,_,rfl⟩
     |ok y =>
      obtain⟨dd,pq⟩:=y;rw[hr] at he;obtain⟨hqi,kk,nn,s,a1,i1,j1,b1,q1,m1,rfl,hA⟩:=he;have HQI:Hid (InR bs lim pq):=hqi;have HA:Hid (qyi k w2 (fun j=>V14.heap.size≤j∧j<w2.heap.size) (.agg #[.int .i64 kk,.int .i64 nn,.string s,.slice a1 i1 j1,.slice b1 q1 m1]) dd):=hA;have hpq:=HGO.out r dd pq hr;have hqb:=hqi.1;have HUL:Hid (∀g,(Value.slice ua un uc).ownBlock=some g→g<V14.heap.size):=by
       obtain⟨xs,ho,_⟩:=HM14.out.kids;exact fun g e=>qy1 ho e
      have HKL:Hid (∀g,(Value.slice (some ⟨g1,0,none⟩) (kl.length+1) cap1).ownBlock=some g→g<V14.heap.size):=fun g e=>qy1 HM14.out.keys e;have HR2:Hid (qaI (qfr (hdO fm) bs lim) rd (x-(kj+1)) pq (kl++[tt]).reverse (esZ (kl++[tt]) (ds++[dd]))=R):=by
       show _=_;rw[←HR.out]
       conv=>rhs;rw[show x-kj=(x-(kj+1))+1 by omega,qaI,HKEY.out]
       simp only[];rw[hr,q1f (by have:=HDS.out;omega),List.reverse_append];rfl
      clear HR hr hA hqi;simp only[]
      go_wp2_with (first
       |((with_reducible refine zT 17 96 rfl rfl (w2.heap.size) (thA kk nn s (.slice a1 i1 j1) (.slice b1 q1 m1)) ?_ ?_);exact⟨rfl,rfl,(qxI w2 _ _).1,thg⟩)
       |((with_reducible refine zF 19 98 rfl rfl (w2.heap.size+1) (0,0) ?_ ?_);exact⟨rfl,rfl,sx (by omega) (qxI w2 _ _).2⟩;refine nmd ?_;intro V5 EV5;have HB5:Hid (Below w2.heap.size w2 V5):=EV5▸qxL _ _ _ _ _;have HX5:Hid (qy9 W (inA bs fm d l) (hdC 7 n (q0:Int) o) (thA 7 0 ⟨#[]⟩ (.slice (some ⟨g1,0,none⟩) (kl.length+1) cap1) (.slice ua un uc)) V5):=HX4.out.next HB5.out;have HF5:Hid (V5.heap[w2.heap.size+1]? = some (.cells (qqp (0,0)) 95)):=EV5▸qzi;have HT5:Hid (V5.heap[w2.heap.size]? = some (.cells #[.int .i64 kk,.int .i64 nn,.string s,.slice a1 i1 j1,.slice b1 q1 m1] 93)):=EV5▸q0p;have HKD5:Hid (q0l k V5 (W.heap.size+5) (.slice (some ⟨g1,0,none⟩) (kl.length+1) cap1) (.slice ua un uc) (kl++[tt]) ds):=HKD4.out.next HB5.out.size (fun j _ hj=>HB5.out.block j hj);have HA5:Hid (qyi k V5 (fun j=>V14.heap.size≤j∧j<V5.heap.size) (.agg #[.int .i64 kk,.int .i64 nn,.string s,.slice a1 i1 j1,.slice b1 q1 m1]) dd):=HA.out.same (fun j hj=>⟨hj.1,Nat.lt_of_lt_of_le hj.2 HB5.out.size⟩) (fun j hj=>HB5.out.block j hj.2);clear EV5;have k4:V5.cell? ⟨W.heap.size+1+1+1+1,4,none⟩=some (.slice ua un uc):=qab HX5.out.tv 4;obtain⟨c0,c1,c2,c3⟩:=qyf HX5.out.box;have u0:V5.cell? ⟨w2.heap.size+1,0,none⟩=some (.int .i64 (0)):=qab HF5.out 0)
       |((with_reducible refine wpList_load_row rfl 93 (.tmp 17) rfl (w2.heap.size) ?hx 93 (#[.int .i64 kk,.int .i64 nn,.string s,.slice a1 i1 j1,.slice b1 q1 m1]) (0,0) _ ?hg underlying93 rfl ?hi ?_);(case hx=>exact rfl);(case hg=>exact HT5.out);(case hi=>exact qyL);obtain⟨xs,ho,hch⟩:=HKD5.out.kids;have HO:Hid (V5.ownsRow (W.heap.size+5) 93 5 (.slice ua un uc) ds.length xs):=ho;have HCH:Hid (∀(i:Nat) (d:DataW Unit),ds[i]? = some d→∃a,qzH xs i a∧qyi k V5 (fun j=>(W.heap.size+5)≤j∧j<V5.heap.size∧some j≠(Value.slice ua un uc).ownBlock∧¬some j=((.slice (some ⟨g1,0,none⟩) (kl.length+1) cap1):Value).ownBlock) (.agg a) d):=hch;clear ho hch)
       |(at_builtin;(refine qaX _ rfl _ _ 91 rfl (W.heap.size+5) 93 ti (.agg th0) 5 80 underlying91 hti ht0 ht1 ht2 rfl (by decide) _ _ _ rfl (HO.out.alloc _) ⟨V5.heap.size,0,none⟩ 1 1 [.int .i64 kk,.int .i64 nn,.string s,.slice a1 i1 j1,.slice b1 q1 m1] rfl rfl (qag _ _ _) (qzs _ _ _ _ _ _ _ _ _) (by decide) (by have:=HDS.out;unfold maxLen;omega) (by have:=HDS.out;omega) (by have:=HX5.out.size;simp;omega) ?_);intro v' w5 hown' hgrow5 hw5;obtain⟨g5,cap5,rfl⟩:=ownsRow_succ hown';have HX6:Hid (qy9 W (inA bs fm d l) (hdC 7 n (q0:Int) o) (thA 7 0 ⟨#[]⟩ (.slice (some ⟨g1,0,none⟩) (kl.length+1) cap1) (.slice ua un uc)) w5):=HX5.out.grow (fun g e=>qbA HO.out e) hgrow5;have HKD6:Hid (q0l k w5 (W.heap.size+5) (.slice (some ⟨g1,0,none⟩) (kl.length+1) cap1) (.slice (some ⟨g5,0,none⟩) (ds.length+1) cap5) (kl++[tt]) (ds++[dd])):=HKD5.out.kid (L:=V14.heap.size) HO.out HCH.out HA5.out (fun g e=>HUL.out g e) (fun g e=>HKL.out g e) (by omega) rfl hown' hgrow5 hw5;clear hown' hgrow5 hw5 c0 c1 c2 c3 k4 u0;have k4:w5.cell? ⟨W.heap.size+1+1+1+1,4,none⟩=some (.slice ua un uc):=qab HX6.out.tv 4;have f4:w5.frozen? ⟨W.heap.size+1+1+1+1,4,none⟩=false:=frozen_of_row w5 (W.heap.size+4) 4 _ _ HX6.out.tv))
      have HX7:Hid (qy9 W (inA bs fm d l) (hdC 7 n (q0:Int) o) (thA 7 0 ⟨#[]⟩ (.slice (some ⟨g1,0,none⟩) (kl.length+1) cap1) (.slice (some ⟨g5,0,none⟩) (ds.length+1) cap5)) (w5.setCell ⟨W.heap.size+1+1+1+1,4,none⟩ (.slice (some ⟨g5,0,none⟩) (ds.length+1) cap5))):=(HX6.out.cell _).2;have HKD7:Hid (q0l k (w5.setCell ⟨W.heap.size+1+1+1+1,4,none⟩ (.slice (some ⟨g5,0,none⟩) (ds.length+1) cap5)) (W.heap.size+5) (.slice (some ⟨g1,0,none⟩) (kl.length+1) cap1) (.slice (some ⟨g5,0,none⟩) (ds.length+1) cap5) (kl++[tt]) (ds++[dd])):=HKD6.out.next (by simp[World.setCell]) (fun j hj1 hj2=>heap_setCell_other w5 _ _ _ (by simp;omega))
      go_roundg (gk-(pq-p))
      case measure=>have:=hg.out;omega
      case rel=>exact⟨pq,kj+1,kl++[tt],ds++[dd],_,_,_,_,_,_,rfl,by go_num,by show _≤_;have:=hg.out;omega,HQI,⟨by omega,by omega⟩,by show _∧_;rw[List.length_append,List.length_append];have:=HDS.out;simp;omega,HR2,HX7,HKD7⟩
  rw[decide_eq_false hso] at cT1;have hkey:qfr (hdO fm) bs lim kl.reverse p=.error (9,(p:Int)):=by
   unfold qfr;rw[hc];simp only[];rw[if_neg hp,if_neg hso]
  have HE:Hid (R=.error (9,(p:Int))):=hent _ hkey;have cB1:∀V,Calls prog 71 #[.agg #[.string ⟨bs.toArray⟩,.int .i64 fm,.int .i64 d,.int .i64 l],.int .i64 p,.int .i64 9] V fun e W'=>e=.returned (.agg (qqp (9,(p:Int))))∧Below V.heap.size V W':=fun V=>by
   have h:=cB V p 9;rw[qxT HL.out HI.out hc hp] at h;exact h
  clear HR hc hp hh h1 h2 hent hkey hso cH cB
  go_wp2_with (first
   |(go_at_call 113;refine HS.out.ck (cH1 _) ?_;clear cH1 c0 c1 c2 c3 u0 g1 g2 HS;intro w8 HS c0 c1 c2 c3 g1 g2 u0)
   |(go_at_call 209;refine HS.out.ck (cT1 _) ?_;clear cT1 c0 c1 c2 c3 u0 g1 g2 HS;intro w9 HS c0 c1 c2 c3 g1 g2 u0)
   |(go_at_call 71;refine ck (cB1 _) HS.out.pr.next ?_;clear cB1 c0 c1 c2 c3 u0 g1 g2;intro w13 HX13)
   |((with_reducible refine zT 6 49 rfl rfl (W.heap.size+2) (th0) ?_ ?_);exact⟨rfl,rfl,HX13.out.th,thg⟩)
   |((with_reducible refine zF 8 52 rfl rfl (W.heap.size+3) (9,(p:Int)) ?_ ?_);exact⟨rfl,rfl,sx (by omega) HX13.out.flt⟩))
  have hf:=HX13.out.fin (th0) (9,(p:Int));refine eoT results177 hf (.int .i64 0) rfl rfl rfl rfl ⟨hf.2.2,?_⟩;rw[HE.out];exact⟨_,_,_,_,_,_,_,_,_,_,rfl⟩
end
end Go.Proofs.YtllcbnfmihfaaaaGreatDoor
