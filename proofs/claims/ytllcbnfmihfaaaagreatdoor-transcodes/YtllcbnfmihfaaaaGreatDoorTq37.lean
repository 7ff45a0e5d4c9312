import Derived.Test.YtllcbnfmihfaaaaGreatDoorTq32
import Derived.Test.YtllcbnfmihfaaaaGreatDoorTq36
set_option maxRecDepth 100000
set_option maxHeartbeats 8000000
namespace Go.Proofs.YtllcbnfmihfaaaaGreatDoor
open Go.Proofs.Tryz
variable {V W:World}{A y:Array Value}{b k:Nat}{kv u:Value}{ex:Nat→Prop}{kl:List (List UInt8)}{ds:List (DataW Unit)}
section
open Go.RowKit Go.Lib
structure Two (W W':World)(kv u:Value):Prop where
 os:W'.os=W.os
 tape:W'.tape=W.tape
 output:W'.output=W.output
 size:W.heap.size≤W'.heap.size
 block:∀j,j<W.heap.size→some j≠kv.ownBlock→some j≠u.ownBlock→W'.heap[j]? = W.heap[j]?
theorem qyD {W':World}(h:Below W.heap.size W W')(kv u:Value):Two W W' kv u:=⟨h.os,h.tape,h.output,h.size,fun j hj _ _=>h.block j hj⟩
def q0c (k:Nat)(bs:List UInt8)(lim:Int)(W:World)(b:Nat)(kv u:Value)(ex:Nat→Prop)(kl:List (List UInt8))(ds:List (DataW Unit))(r:Except (Int×Int) ((List (List UInt8)×List (Lit×DataW Unit))×Nat))(e:Ending)(W':World):Prop :=
 Two W W' kv u∧∃r',qy8 bs lim r r'∧match r' with
 |.ok (x,q)=>InR bs lim q∧∃l dd a n c a' n' c',x=(l::kl.reverse,esZ kl ds++[(.string l,dd)])∧e=.returned (.tuple #[.agg (thA 7 0 ⟨#[]⟩ (.slice a n c) (.slice a' n' c')),.int .i64 q,.agg (qqp (0,0))])∧qzE k W' b (.slice a n c) (.slice a' n' c') ex (kl++[l]) (ds++[dd])
 |.error f=>∃kd n s a i j b p m z,e=.returned (.tuple #[.agg (thA kd n s (.slice a i j) (.slice b p m)),.int .i64 z,.agg (qqp f)])
structure qze (W:World)(A y:Array Value)(V:World):Prop where
 box:V.heap[W.heap.size]? = some (.cells A 143)
 mv:V.heap[W.heap.size+1]? = some (.cells y 93)
 th:V.heap[W.heap.size+2]? = some (.cells th0 93)
 flt:V.heap[W.heap.size+3]? = some (.cells (qqp (0,0)) 95)
 below:Below W.heap.size W V
structure EnS (W:World)(A y:Array Value)(Z:World):Prop where
 box:Z.heap[W.heap.size]? = some (.cells A 143)
 mv:Z.heap[W.heap.size+1]? = some (.cells y 93)
theorem qze.s (h:qze W A y V):EnS W A y V:=⟨h.box,h.mv⟩
theorem EnS.set (h:EnS W A y V)(j:Nat)(cs:Array Value)(hj:W.heap.size+2≤j):EnS W A y (V.setRow j cs):=⟨sx (by omega) h.box,sx (by omega) h.mv⟩
theorem EnS.lt (h:EnS W A y V):W.heap.size+1<V.heap.size:=ltA h.mv
theorem EnS.new (h:EnS W A y V)(o:Obj):EnS W A y (V.alloc o):=⟨(Below.heap_alloc _ _ _ (by have:=h.lt;omega)).trans h.box,(Below.heap_alloc _ _ _ h.lt).trans h.mv⟩
theorem qze.next {V':World}(h:qze W A y V)(hb:Below V.heap.size V V'):qze W A y V' :=
 ⟨(hb.block _ (ltA h.box)).trans h.box,(hb.block _ (ltA h.mv)).trans h.mv,(hb.block _ (ltA h.th)).trans h.th,(hb.block _ (ltA h.flt)).trans h.flt,h.below.trans (hb.mono h.below.size)⟩
theorem qze.drew (h:qze W A y V):qze W A y V.drew:=⟨h.box,h.mv,h.th,h.flt,h.below.drew⟩
theorem qze.size (h:qze W A y V):W.heap.size+4≤V.heap.size:=ltA h.flt
theorem qze.set (h:qze W A y V)(j:Nat)(cs:Array Value)(hj:W.heap.size+4≤j):qze W A y (V.setRow j cs) :=
 ⟨sx (by omega) h.box,sx (by omega) h.mv,sx (by omega) h.th,sx (by omega) h.flt,qah h.below (by omega) _⟩
theorem q08 (W:World)(A y:Array Value):qze W A y ((((W.alloc (.cells A 143)).alloc (.cells y 93)).alloc (.cells th0 93)).alloc (.cells (qqp (0,0)) 95)):=by
 have e1:=qac W (.cells A 143);have e2:=qac (W.alloc (.cells A 143)) (.cells y 93);have e3:=qac ((W.alloc (.cells A 143)).alloc (.cells y 93)) (.cells th0 93);have e4:=qac (((W.alloc (.cells A 143)).alloc (.cells y 93)).alloc (.cells th0 93)) (.cells (qqp (0,0)) 95);simp only[World.size_alloc] at e2 e3 e4;have hB:Below W.heap.size W ((((W.alloc (.cells A 143)).alloc (.cells y 93)).alloc (.cells th0 93)).alloc (.cells (qqp (0,0)) 95)):=(((bwA).alloc (by simp) _).alloc (by simp;omega) _).alloc (by simp;omega) _;refine⟨?_,?_,?_,e4,hB⟩
 ·rw[Below.heap_alloc _ _ _ (by simp only[World.size_alloc];omega),Below.heap_alloc _ _ _ (by simp only[World.size_alloc];omega),Below.heap_alloc _ _ _ (by simp only[World.size_alloc];omega)];exact e1
 ·rw[Below.heap_alloc _ _ _ (by simp only[World.size_alloc];omega),Below.heap_alloc _ _ _ (by simp only[World.size_alloc];omega)];exact e2
 rw[Below.heap_alloc _ _ _ (by simp only[World.size_alloc];omega)];exact e3
theorem qze.fin (h:qze W A y V)(z:Array Value)(x:Int×Int):((V.setRow (W.heap.size+2) z).setRow (W.heap.size+3) (qqp x)).heap[W.heap.size+2]? = some (.cells z 93)∧((V.setRow (W.heap.size+2) z).setRow (W.heap.size+3) (qqp x)).heap[W.heap.size+3]? = some (.cells (qqp x) 95)∧Below W.heap.size W ((V.setRow (W.heap.size+2) z).setRow (W.heap.size+3) (qqp x)):=by
 refine⟨?_,?_,qah (qah h.below (by omega) _) (by omega) _⟩
 ·rw[setRow_other _ _ _ _ (by omega)];exact setRow_heap _ _ _ _ _ _ h.th
 exact setRow_heap _ _ _ _ _ _ (sx (by omega) h.flt)
theorem qze.map (h:qze W A y V)(hm:qzE k W b kv u ex kl ds):qzE k V b kv u ex kl ds:=hm.next h.below.size (fun j _ hj _=>h.below.block j hj)
structure EnW (W:World)(y:Array Value)(kv u:Value)(V:World):Prop where
 mv:V.heap[W.heap.size+1]? = some (.cells y 93)
 th:V.heap[W.heap.size+2]? = some (.cells th0 93)
 flt:V.heap[W.heap.size+3]? = some (.cells (qqp (0,0)) 95)
 two:Two W V kv u
theorem EnW.size (h:EnW W y kv u V):W.heap.size+4≤V.heap.size:=ltA h.flt
theorem qze.w (h:qze W A y V)(kv u:Value):EnW W y kv u V:=⟨h.mv,h.th,h.flt,qyD h.below kv u⟩
theorem EnW.drew (h:EnW W y kv u V):EnW W y kv u V.drew:=⟨h.mv,h.th,h.flt,⟨h.two.os,h.two.tape,h.two.output,h.two.size,h.two.block⟩⟩
theorem EnW.grow {w5:World}{o:Obj}(h:EnW W y kv u V){x:Option Nat}(hx:∀g,x=some g→g<W.heap.size∧(x=kv.ownBlock∨x=u.ownBlock))(hg:(V.alloc o).grownBy w5 x):EnW W y kv u w5:=by
 have hs:=h.size;have hgs:V.heap.size+1≤w5.heap.size:=by have:=hg.size;simpa using this
 have hn:∀j,W.heap.size≤j→j<V.heap.size→w5.heap[j]? = V.heap[j]?:=fun j hj hj2=>(hg.block j (by simp;omega) (fun e=>by have:=(hx j e.symm).1;omega)).trans (Below.heap_alloc _ _ _ hj2);refine⟨(hn _ (by omega) (by omega)).trans h.mv,(hn _ (by omega) (by omega)).trans h.th,(hn _ (by omega) (by omega)).trans h.flt,hg.os.trans h.two.os,hg.tape.trans h.two.tape,hg.output.trans h.two.output,by omega,fun j hj h1 h2 => ?_⟩;refine(hg.block j (by simp;omega) (fun e => ?_)).trans ((Below.heap_alloc _ _ _ (by omega)).trans (h.two.block j hj h1 h2));rcases(hx j e.symm).2 with e2|e2
 ·exact h1 (e.trans e2)
 exact h2 (e.trans e2)
theorem EnW.cell {kd n:Int}{s:ByteArray}{kx ux:Value}(h:EnW W (thA kd n s kx ux) kv u V)(v':Value):EnW W (thA kd n s v' ux) kv u (V.setCell ⟨W.heap.size+1,3,none⟩ v')∧EnW W (thA kd n s kx v') kv u (V.setCell ⟨W.heap.size+1,4,none⟩ v'):=by
 have ho:∀i j,j≠W.heap.size+1→(V.setCell ⟨W.heap.size+1,i,none⟩ v').heap[j]? = V.heap[j]?:=fun i j hj=>heap_setCell_other V _ _ _ (by simpa using hj);have hz:∀i,Two W (V.setCell ⟨W.heap.size+1,i,none⟩ v') kv u:=fun i=>⟨h.two.os,h.two.tape,h.two.output,by have:=h.two.size;simpa [World.setCell] using this,fun j hj h1 h2=>(ho i j (by omega)).trans (h.two.block j hj h1 h2)⟩
 refine⟨⟨?_,(ho _ _ (by omega)).trans h.th,(ho _ _ (by omega)).trans h.flt,hz 3⟩,⟨?_,(ho _ _ (by omega)).trans h.th,(ho _ _ (by omega)).trans h.flt,hz 4⟩⟩
 ·rw[heap_setCell_same _ _ _ _ _ _ h.mv];rfl
 rw[heap_setCell_same _ _ _ _ _ _ h.mv];rfl
theorem EnW.fin (h:EnW W y kv u V)(z:Array Value)(x:Int×Int):((V.setRow (W.heap.size+2) z).setRow (W.heap.size+3) (qqp x)).heap[W.heap.size+2]? = some (.cells z 93)∧((V.setRow (W.heap.size+2) z).setRow (W.heap.size+3) (qqp x)).heap[W.heap.size+3]? = some (.cells (qqp x) 95)∧Two W ((V.setRow (W.heap.size+2) z).setRow (W.heap.size+3) (qqp x)) kv u:=by
 refine⟨?_,?_,h.two.os,h.two.tape,h.two.output,by have:=h.two.size;simpa using this,fun j hj h1 h2 => ?_⟩
 ·rw[setRow_other _ _ _ _ (by omega)];exact setRow_heap _ _ _ _ _ _ h.th
 ·exact setRow_heap _ _ _ _ _ _ (sx (by omega) h.flt)
 rw[setRow_other _ _ _ _ (by omega),setRow_other _ _ _ _ (by omega)];exact h.two.block j hj h1 h2
theorem q6e {L S:Nat}{V12 w13 w13' w14 wf:World}{v' u':Value}{t:List UInt8}{d:DataW Unit}{a:Array Value}{xs:List Value}(hm:qzE k W b kv u ex kl ds)(hex:∀j,ex j→j<W.heap.size)(h1:W.ownsRow b 93 5 u ds.length xs)(h2:∀(i:Nat) (d:DataW Unit),ds[i]? = some d→∃a,qzH xs i a∧qyi k W (fun j=>b≤j∧j<W.heap.size∧some j≠u.ownBlock∧¬(some j=kv.ownBlock∨ex j)) (.agg a) d)(hb:b≤W.heap.size)(h12:∀j,j<W.heap.size→V12.heap[j]? = W.heap[j]?)(hkid:qyi k V12 (fun j=>L≤j∧j<S) (.agg a) d)(hL:W.heap.size+4≤L)(hS:S≤V12.heap.size)(h4:W.heap.size+4≤V12.heap.size)(ha:a.size=5)(hk1:w13.ownsRow b 9 1 v' (kl.length+1) (kl.map qxX++[qxX t]))(hg1:∀j,j<V12.heap.size→some j≠kv.ownBlock→w13.heap[j]? = V12.heap[j]?)(hw1:v'.ownBlock=kv.ownBlock∨v'.ownBlock=some (V12.heap.size+1))(hs1:V12.heap.size+1≤w13.heap.size)(h13:∀j,j≠W.heap.size+1→w13'.heap[j]? = w13.heap[j]?)(hz13:w13'.heap.size=w13.heap.size)(hk2:w14.ownsRow b 93 5 u' (ds.length+1) (xs++a.toList))(hg2:∀j,j<w13'.heap.size→some j≠u.ownBlock→w14.heap[j]? = w13'.heap[j]?)(hw2:u'.ownBlock=u.ownBlock∨u'.ownBlock=some (w13'.heap.size+1))(hs2:w13'.heap.size+1≤w14.heap.size)(hf:∀j,(j<W.heap.size∨W.heap.size+4≤j)→wf.heap[j]? = w14.heap[j]?)(hzf:w14.heap.size≤wf.heap.size):qzE k wf b v' u' ex (kl++[t]) (ds++[d]):=by
 have hkl:∀g,kv.ownBlock=some g→g<W.heap.size:=fun g e=>qy1 hm.keys e;have hul:∀g,u.ownBlock=some g→g<W.heap.size:=fun g e=>qy1 h1 e;have hvl:∀g,v'.ownBlock=some g→g<w13.heap.size:=fun g e=>qy1 hk1 e;have hall:∀j,(j<W.heap.size∨W.heap.size+4≤j)→j<V12.heap.size→some j≠kv.ownBlock→some j≠u.ownBlock→wf.heap[j]? = V12.heap[j]?:=fun j hj hj2 e1 e2=>by
  rw[hf j hj,hg2 j (by omega) e2,h13 j (by omega),hg1 j hj2 e1]
 have hne1:∀j,j<V12.heap.size→some j≠kv.ownBlock→¬some j=v'.ownBlock:=fun j hj e1 e=>by
  rcases hw1 with h|h
  ·exact e1 (e.trans h)
  rw[h] at e;injection e with e;omega
 have hne2:∀j,j<V12.heap.size→some j≠u.ownBlock→some j≠u'.ownBlock:=fun j hj e1 e=>by
  rcases hw2 with h|h
  ·exact e1 (e.trans h)
  rw[h] at e;injection e with e;omega
 have hap:∀g,v'.ownBlock=some g→¬u.ownBlock=some g:=fun g e e2=>by
  rcases hw1 with h|h
  ·exact hm.apart g (h.symm.trans e) e2
  have:=hul g e2;rw[h] at e;injection e with e;omega
 refine⟨?_,⟨xs++a.toList,?_,fun i dd hd => ?_⟩,by rw[List.length_append,List.length_append,hm.len];rfl,fun g e1 e2 => ?_,fun g e hg => ?_,fun g e hg => ?_⟩
 ·rw[List.length_append,List.map_append];refine⟨hk1.1,?_⟩;rcases hk1.2 with h|⟨g,cap,cur,e,hge,hg,h3⟩
  ·exact .inl h
  have hgl:=ltA hg;have hgo:v'.ownBlock=some g:=by rw[e];rfl
  have hpl:g<W.heap.size∨W.heap.size+4≤g:=by
   rcases hw1 with h|h
   ·exact .inl (hkl g (h.symm.trans hgo))
   rw[h] at hgo;injection hgo with hgo;omega
  refine .inr ⟨g,cap,cur,e,hge,?_,h3⟩;rw[hf g hpl,hg2 g (by omega) (fun e=>hap g hgo e.symm),h13 g (by omega)];exact hg
 ·rw[List.length_append];refine⟨hk2.1,?_⟩;rcases hk2.2 with h|⟨g,cap,cur,e,hge,hg,h3⟩
  ·exact .inl h
  have hgo:u'.ownBlock=some g:=by rw[e];rfl
  have hpl:g<W.heap.size∨W.heap.size+4≤g:=by
   rcases hw2 with h|h
   ·exact .inl (hul g (h.symm.trans hgo))
   rw[h] at hgo;injection hgo with hgo;omega
  refine .inr ⟨g,cap,cur,e,hge,?_,h3⟩;rw[hf g hpl];exact hg
 ·by_cases hi:i<ds.length
  ·rw[List.getElem?_append_left hi] at hd;obtain⟨a',e1,e2⟩:=h2 i dd hd;exact⟨a',q16 h1.1 hi e1,e2.same (fun j hj=>⟨hj.1,by have:=hj.2.1;omega,hne2 j (by have:=hj.2.1;omega) hj.2.2.1,fun hh=>hh.elim (hne1 j (by have:=hj.2.1;omega) (fun e=>hj.2.2.2 (.inl e))) (fun e=>hj.2.2.2 (.inr e))⟩) (fun j hj=>(hall j (.inl hj.2.1) (by have:=hj.2.1;omega) (fun e=>hj.2.2.2 (.inl e)) hj.2.2.1).trans (h12 j hj.2.1))⟩
  have e:i=ds.length:=by
   have:=ltL hd;rw[List.length_append] at this;simp at this;omega
  subst e;rw[List.getElem?_append_right (Nat.le_refl _),Nat.sub_self] at hd;injection hd with hd;subst hd;have hnk:∀j,W.heap.size≤j→some j≠kv.ownBlock:=fun j hj e=>by have:=hkl j e.symm;omega
  have hnu:∀j,W.heap.size≤j→some j≠u.ownBlock:=fun j hj e=>by have:=hul j e.symm;omega
  exact⟨a,q18 h1.1 ha,hkid.same (fun j hj=>⟨by have:=hj.1;omega,by have:=hj.2;omega,hne2 j (by have:=hj.2;omega) (hnu j (by have:=hj.1;omega)),fun hh=>hh.elim (hne1 j (by have:=hj.2;omega) (hnk j (by have:=hj.1;omega))) (fun e=>by have:=hex j e;have:=hj.1;omega)⟩) (fun j hj=>hall j (.inr (by have:=hj.1;omega)) (by have:=hj.2;omega) (hnk j (by have:=hj.1;omega)) (hnu j (by have:=hj.1;omega)))⟩
 ·rcases hw2 with h|h
  ·exact hap g e1 (h.symm.trans e2)
  have:=hvl g e1;rw[h] at e2;injection e2 with e2;omega
 ·rcases hw1 with h|h
  ·exact hm.exk g (h.symm.trans e) hg
  rw[h] at e;injection e with e;have:=hex g hg;omega
 rcases hw2 with h|h
 ·exact hm.exu g (h.symm.trans e) hg
 rw[h] at e;injection e with e;have:=hex g hg;omega
end
end Go.Proofs.YtllcbnfmihfaaaaGreatDoor
