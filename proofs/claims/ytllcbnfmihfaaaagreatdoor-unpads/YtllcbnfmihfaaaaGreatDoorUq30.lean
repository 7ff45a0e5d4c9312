import Derived.Test.YtllcbnfmihfaaaaGreatDoorUq29
set_option maxRecDepth 100000
set_option maxHeartbeats 8000000
namespace Go.Proofs.YtllcbnfmihfaaaaGreatDoor
open Go.Proofs.Tryz
section
open Go.RowKit Go.Lib
def qbh (k:Nat)(V:World)(b:Nat)(u:Value)(ex:Nat→Prop)(ds:List (DataW Unit)):Prop :=
 ∃xs,V.ownsRow b 93 5 u ds.length xs∧∀(i:Nat) (d:DataW Unit),ds[i]? = some d→∃a,qh2 xs i a∧qbD k V (fun j=>b≤j∧j<V.heap.size∧some j≠u.ownBlock∧¬ex j) (.agg a) d
theorem qb9 {W:World}{base:Nat}{e:TypeId}{size:Nat}{v:Value}{n:Nat}{xs:List Value}(ho:W.ownsRow base e size v n xs){g:Nat}(h:v.ownBlock=some g):g<W.heap.size:=by
 rcases ho.2 with ⟨h0,_⟩|⟨g',cap,cur,rfl,_,hg,_⟩
 ·subst h0;cases h
 ·cases h;exact ltA hg
theorem qiO {V V':World}{b:Nat}{t:TypeId}{size n:Nat}{u:Value}{xs:List Value}(h:V.ownsRow b t size u n xs)(hk:∀j,b≤j→j<V.heap.size→V'.heap[j]? = V.heap[j]?):V'.ownsRow b t size u n xs:=by
 refine⟨h.1,?_⟩
 rcases h.2 with h2|⟨g,cap,cur,e,hb,hg,h3⟩
 ·exact .inl h2
 ·exact .inr ⟨g,cap,cur,e,hb,(hk g hb (ltA hg)).trans hg,h3⟩
theorem qbh.next {k:Nat}{V V':World}{b:Nat}{u:Value}{ex:Nat→Prop}{ds:List (DataW Unit)}(h:qbh k V b u ex ds)(hs:V.heap.size≤V'.heap.size)(hk:∀j,b≤j→j<V.heap.size→V'.heap[j]? = V.heap[j]?):qbh k V' b u ex ds:=by
 obtain⟨xs,h1,h2⟩:=h
 refine⟨xs,qiO h1 hk,fun i d hd => ?_⟩
 obtain⟨a,e1,e2⟩:=h2 i d hd
 exact⟨a,e1,e2.same (fun j hj=>⟨hj.1,by have:=hj.2.1;omega,hj.2.2⟩) (fun j hj=>hk j hj.1 hj.2.1)⟩
theorem qgb {xs ys:List Value}{n i:Nat}{a:Array Value}(hn:xs.length=n*5)(hi:i<n)(h:qh2 xs i a):qh2 (xs++ys) i a:=by
 unfold qh2 at *
 rw[List.drop_append_of_le_length (by omega),List.take_append_of_le_length (by rw[List.length_drop];omega)]
 exact h
theorem qhv {xs:List Value}{n:Nat}{a:Array Value}(hn:xs.length=n*5)(ha:a.size=5):qh2 (xs++a.toList) n a:=by
 unfold qh2
 rw[show 5*n=xs.length by omega,List.drop_left,List.take_of_length_le (by simp;omega)]
theorem qbh.push {k:Nat}{V w5:World}{b L:Nat}{u v':Value}{ex:Nat→Prop}{ds:List (DataW Unit)}{d:DataW Unit}{a:Array Value}{xs:List Value}{o:Obj}(h1:V.ownsRow b 93 5 u ds.length xs)(h2:∀(i:Nat) (d:DataW Unit),ds[i]? = some d→∃a,qh2 xs i a∧qbD k V (fun j=>b≤j∧j<V.heap.size∧some j≠u.ownBlock∧¬ex j) (.agg a) d)(hkid:qbD k V (fun j=>L≤j∧j<V.heap.size) (.agg a) d)(hL:∀g,u.ownBlock=some g→g<L)(hb:b≤L)(hex:∀j,L≤j→¬ex j)(ha:a.size=5)(hown:w5.ownsRow b 93 5 v' (ds.length+1) (xs++a.toList))(hg:(V.alloc o).grownBy w5 u.ownBlock)(hw:v'.ownBlock=u.ownBlock∨v'.ownBlock=some (V.alloc o).heap.size):qbh k w5 b v' ex (ds++[d]):=by
 have hgs:V.heap.size+1≤w5.heap.size:=by have:=hg.size;simpa using this
 have hkeep:∀j,j<V.heap.size→some j≠u.ownBlock→w5.heap[j]? = V.heap[j]?:=fun j hj hn=>(hg.block j (by simp;omega) hn).trans (Below.heap_alloc _ _ _ hj)
 have hne:∀j,j<V.heap.size→some j≠u.ownBlock→some j≠v'.ownBlock:=fun j hj hn=>by
  rcases hw with hw|hw
  ·rw[hw];exact hn
  ·rw[hw];intro e;injection e with e;simp at e;omega
 refine⟨xs++a.toList,by rw[List.length_append];exact hown,fun i dd hd => ?_⟩
 by_cases hi:i<ds.length
 ·rw[List.getElem?_append_left hi] at hd
  obtain⟨a',e1,e2⟩:=h2 i dd hd
  exact⟨a',qgb h1.1 hi e1,e2.same (fun j hj=>⟨hj.1,by have:=hj.2.1;omega,hne j hj.2.1 hj.2.2.1,hj.2.2.2⟩) (fun j hj=>hkeep j hj.2.1 hj.2.2.1)⟩
 ·have e:i=ds.length:=by
   have:=ltL hd
   rw[List.length_append] at this
   simp at this
   omega
  subst e
  rw[List.getElem?_append_right (Nat.le_refl _),Nat.sub_self] at hd
  injection hd with hd
  subst hd
  have hno:∀j,L≤j→some j≠u.ownBlock:=fun j hj e=>by have:=hL j e.symm;omega
  exact⟨a,qhv h1.1 ha,hkid.same (fun j hj=>⟨by have:=hj.1;omega,by have:=hj.2;omega,hne j hj.2 (hno j hj.1),hex j hj.1⟩) (fun j hj=>hkeep j hj.2 (hno j hj.1))⟩
theorem qbh.list {k:Nat}{V:World}{b B:Nat}{u:Value}{ex:Nat→Prop}{ds:List (DataW Unit)}(h:qbh k V b u ex ds)(hB:B≤b):qbD (k+1) V (fun j=>B≤j∧j<V.heap.size) (.agg (thA 6 0 ⟨#[]⟩ qaf u)) (.agg ds):=by
 obtain⟨xs,h1,h2⟩:=h
 refine⟨u,xs,rfl,qbx h1 _ (fun g hg1 hg2=>⟨by omega,hg2⟩),fun i d hd => ?_⟩
 obtain⟨a,e1,e2⟩:=h2 i d hd
 exact⟨a,e1,e2.same (fun j hj=>⟨by have:=hj.1;omega,hj.2.1⟩) (fun _ _=>rfl)⟩
theorem qdq (k:Nat)(V:World)(b:Nat)(ex:Nat→Prop):qbh k V b qaf ex []:=⟨[],World.ownsRow_nil _ _ _ _,fun i d h=>by simp at h⟩
def qmR {α:Type}(bs:List UInt8)(lim:Int)(itF:α→Nat→Except (Int×Int) (α×Nat))(last g p1:Nat)(acc:α):Except (Int×Int) (α×Nat):=match itF acc p1 with
   |.error e=>.error e
   |.ok (acc',p2)=>match spF bs lim (bs.length+1-p2) p2 with
    |.error e=>.error e
    |.ok (_,p3)=>match bs[p3]? with
     |none=>.error (9,p3)
     |some c=>if (p3:Int)=lim then .error (8,p3) else if c.toNat=last then .ok (acc',p3+1) else if c.toNat=44 then qd6 bs lim itF last g (p3+1) acc' else .error (9,p3)
theorem qgw {α:Type}(bs:List UInt8)(lim:Int)(itF:α→Nat→Except (Int×Int) (α×Nat))(last g p:Nat)(acc:α):qd6 bs lim itF last (g+1) p acc=match spF bs lim (bs.length+1-p) p with
  |.error e=>.error e
  |.ok (_,p1)=>qmR bs lim itF last g p1 acc:=by
 rw[qd6]
 rfl
def qd2 {α:Type}(bs:List UInt8)(lim:Int)(itF:α→Nat→Except (Int×Int) (α×Nat))(last g p:Nat)(acc:α)(R:Except (Int×Int) (α×Nat)):Prop :=
 InR bs lim p∧((∃g',g=g'+1∧qmR bs lim itF last g' p acc=R)∨((p:Int)=lim∧p<bs.length∧R=.error (8,(p:Int))))
theorem qmL {α:Type}{bs:List UInt8}{l lim:Int}(hl:Lm bs l lim){itF:α→Nat→Except (Int×Int) (α×Nat)}{last g p:Nat}{acc:α}{R:Except (Int×Int) (α×Nat)}(hi:InR bs lim p)(hR:qd6 bs lim itF last (g+1) p acc=R):qd2 bs lim itF last (g+1) (skR bs l (bs.length+1-p) p) acc R:=by
 rw[qgw] at hR
 rcases qfJ hl (bs.length+1-p) p hi with ⟨q,h1,h2,h3,h4,_⟩|⟨q,h1,h2,h3,h4⟩
 ·rw[h1] at hR
  rw[h2]
  exact⟨h3,.inl ⟨g,rfl,hR⟩⟩
 ·rw[h1] at hR
  rw[h2]
  exact⟨⟨by omega,by omega⟩,.inr ⟨h3,h4,hR.symm⟩⟩
theorem Tryz.infoThR:(prog.info? 93).map (fun i=>(i.zero,i.size,i.bytes))=some (some (.agg th0),5,80):=by kernel_rfl
structure qcr (W:World)(A:Array Value)(y:Array Value)(V:World):Prop where
 box:V.heap[W.heap.size]? = some (.cells A 143)
 th:V.heap[W.heap.size+1]? = some (.cells th0 93)
 flt:V.heap[W.heap.size+2]? = some (.cells (qae (0,0)) 95)
 tv:V.heap[W.heap.size+3]? = some (.cells y 93)
 below:Below W.heap.size W V
theorem qcr.rth {W V:World}{A y:Array Value}(h:qcr W A y V):RTh W A V:=⟨h.box,h.th,h.flt,h.below⟩
theorem qcr.next {W V V':World}{A y:Array Value}(h:qcr W A y V)(hb:Below V.heap.size V V'):qcr W A y V' :=
 ⟨(hb.block _ (ltA h.box)).trans h.box,(hb.block _ (ltA h.th)).trans h.th,(hb.block _ (ltA h.flt)).trans h.flt,(hb.block _ (ltA h.tv)).trans h.tv,h.below.trans (hb.mono h.below.size)⟩
theorem qcr.size {W V:World}{A y:Array Value}(h:qcr W A y V):W.heap.size+4≤V.heap.size:=ltA h.tv
theorem qiU (W:World)(A y:Array Value):qcr W A y (((((W.alloc (.cells A 143)).alloc (.cells th0 93)).alloc (.cells (qae (0,0)) 95)).alloc (.cells th0 93)).setRow (W.heap.size+3) y):=by
 have h:=qkt W A
 have hs:(((W.alloc (.cells A 143)).alloc (.cells th0 93)).alloc (.cells (qae (0,0)) 95)).heap.size=W.heap.size+3:=by simp
 have hn:=qab (((W.alloc (.cells A 143)).alloc (.cells th0 93)).alloc (.cells (qae (0,0)) 95)) (.cells th0 93)
 rw[hs] at hn
 generalize (((W.alloc (.cells A 143)).alloc (.cells th0 93)).alloc (.cells (qae (0,0)) 95))=V at *
 have h2:=h.next (bwO (.cells th0 93))
 exact⟨sx (by omega) h2.box,sx (by omega) h2.th,sx (by omega) h2.flt,setRow_heap _ _ _ _ _ _ hn,qai h2.below (by omega) _⟩
theorem qi8 (W:World)(A:Array Value):((((W.alloc (.cells A 143)).alloc (.cells th0 93)).alloc (.cells (qae (0,0)) 95)).alloc (.cells th0 93)).heap[W.heap.size+3]? = some (.cells th0 93):=by
 have hs:(((W.alloc (.cells A 143)).alloc (.cells th0 93)).alloc (.cells (qae (0,0)) 95)).heap.size=W.heap.size+3:=by simp
 have hn:=qab (((W.alloc (.cells A 143)).alloc (.cells th0 93)).alloc (.cells (qae (0,0)) 95)) (.cells th0 93)
 rw[hs] at hn
 exact hn
theorem qia (wr w2:World)(a:Array Value)(f:Array Value)(hB:Below (wr.heap.size+2) ((wr.alloc (.cells (qae (0,0)) 95)).alloc (.cells th0 93)) w2):Below wr.heap.size wr ((w2.setRow (wr.heap.size+1) a).setRow wr.heap.size f) :=
 qai (qai (((bwA).alloc (by simp) _).trans (hB.mono (by omega))) (by omega) _) (Nat.le_refl _) _
def liR (r:Except (Int×Int) (List (DataW Unit)×Nat)):Except (Int×Int) (DataW Unit×Nat):=match r with
 |.error e=>.error e
 |.ok (ds,q)=>.ok (.agg ds,q)
theorem qiH {bs:List UInt8}{lim:Int}{q:Nat}{c:UInt8}(h:∀g',spF bs lim g' q=.ok ((),q))(hc:bs[q]? = some c):¬(q:Int)=lim:=fun e=>by
 have:=h 1
 rw[spF,hc] at this
 simp only[] at this
 rw[if_pos e] at this
 cases this
theorem qfa {α:Type}{bs:List UInt8}{l lim:Int}(hl:Lm bs l lim){itF:α→Nat→Except (Int×Int) (α×Nat)}{last p p1:Nat}{acc:α}{R:Except (Int×Int) (α×Nat)}(hi:InR bs lim p)(hp1:p1=skR bs l (bs.length+1-p) p)(hR:qdg bs lim itF last p acc=R):InR bs lim p1∧((∃c,bs[p1]? = some c∧qaz bs l p1=true∧c.toNat=last∧R=.ok (acc,p1+1)∧InR bs lim (p1+1))∨((qaz bs l p1=false∨∃c,bs[p1]? = some c∧qaz bs l p1=true∧¬c.toNat=last)∧qd2 bs lim itF last (bs.length+1-p1) p1 acc R)):=by
 unfold qdg at hR
 rcases qfJ hl (bs.length+1-p) p hi with ⟨q,h1,h2,h3,h4,h5⟩|⟨q,h1,h2,h3,h4⟩
 ·rw[h2] at hp1
  subst hp1
  rw[h1] at hR
  simp only[] at hR
  have hid:=h5 (by have:=hi.1;omega)
  refine⟨h3,?_⟩
  have hits:∀R',qd6 bs lim itF last (bs.length+1-p1) p1 acc=R'→qd2 bs lim itF last (bs.length+1-p1) p1 acc R':=fun R' hR'=>by
   obtain⟨g,hg⟩:∃g,bs.length+1-p1=g+1:=⟨bs.length-p1,by have:=h3.1;omega⟩
   rw[hg] at hR' ⊢
   rw[qgw,hg,hid (g+1)] at hR'
   exact⟨h3,.inl ⟨g,rfl,hR'⟩⟩
  cases hc:bs[p1]? with
  |none =>
   rw[hc] at hR
   exact .inr ⟨.inl (qa9 hc),hits R hR⟩
  |some c =>
   rw[hc] at hR
   simp only[] at hR
   have hne:=qiH hid hc
   rw[if_neg hne] at hR
   have hh:=qa7 hl h3 hc hne
   by_cases hlast:c.toNat=last
   ·rw[if_pos hlast] at hR
    exact .inl ⟨c,rfl,hh,hlast,hR.symm,qav h3 hc hne⟩
   ·rw[if_neg hlast] at hR
    exact .inr ⟨.inr ⟨c,rfl,hh,hlast⟩,hits R hR⟩
 ·rw[h2] at hp1
  subst hp1
  rw[h1] at hR
  simp only[] at hR
  obtain⟨c,hc⟩:∃c,bs[p1]? = some c:=⟨_,List.getElem?_eq_getElem h4⟩
  have h3':InR bs lim p1:=⟨by omega,by omega⟩
  exact⟨h3',.inr ⟨.inl (qaJ hl hc h3),h3',.inr ⟨h3,h4,hR.symm⟩⟩⟩
theorem qgV {α:Type}{bs:List UInt8}{l lim:Int}(hl:Lm bs l lim){itF:α→Nat→Except (Int×Int) (α×Nat)}{last g p p2 p3:Nat}{acc acc':α}{R:Except (Int×Int) (α×Nat)}(hi:InR bs lim p2)(hp3:p3=skR bs l (bs.length+1-p2) p2)(hit:itF acc p=.ok (acc',p2))(hR:qmR bs lim itF last g p acc=R):InR bs lim p3∧p2≤p3∧((qaz bs l p3=false∧R=.error (qaI bs l p3 9))∨∃c,bs[p3]? = some c∧qaz bs l p3=true∧((c.toNat=last∧R=.ok (acc',p3+1)∧InR bs lim (p3+1))∨(¬c.toNat=last∧c.toNat=44∧InR bs lim (p3+1)∧qd6 bs lim itF last g (p3+1) acc'=R)∨(¬c.toNat=last∧¬c.toNat=44∧R=.error (qaI bs l p3 9)))):=by
 unfold qmR at hR
 rw[hit] at hR
 simp only[] at hR
 rcases qfJ hl (bs.length+1-p2) p2 hi with ⟨q,h1,h2,h3,h4,h5⟩|⟨q,h1,h2,h3,h4⟩
 ·rw[h2] at hp3
  subst hp3
  rw[h1] at hR
  simp only[] at hR
  refine⟨h3,h4,?_⟩
  cases hc:bs[p3]? with
  |none =>
   rw[hc] at hR
   exact .inl ⟨qa9 hc,by rw[qaH h3.1 hc];exact hR.symm⟩
  |some c =>
   rw[hc] at hR
   simp only[] at hR
   have hne:=qiH (h5 (by have:=hi.1;omega)) hc
   rw[if_neg hne] at hR
   refine .inr ⟨c,rfl,qa7 hl h3 hc hne,?_⟩
   by_cases hlast:c.toNat=last
   ·rw[if_pos hlast] at hR
    exact .inl ⟨hlast,hR.symm,qav h3 hc hne⟩
   ·rw[if_neg hlast] at hR
    by_cases h44:c.toNat=44
    ·rw[if_pos h44] at hR
     exact .inr (.inl ⟨hlast,h44,qav h3 hc hne,hR⟩)
    ·rw[if_neg h44] at hR
     exact .inr (.inr ⟨hlast,h44,by rw[qa6 hl h3 hc hne];exact hR.symm⟩)
 ·rw[h2] at hp3
  subst hp3
  rw[h1] at hR
  simp only[] at hR
  obtain⟨c,hc⟩:∃c,bs[p3]? = some c:=⟨_,List.getElem?_eq_getElem h4⟩
  refine⟨⟨by omega,by omega⟩,by have:=hi.2;omega,.inl ⟨qaJ hl hc h3,?_⟩⟩
  rw[qaU hl hc h3]
  exact hR.symm
theorem qiB {bs:List UInt8}{l lim:Int}(hl:Lm bs l lim){q:Nat}(h3:(q:Int)=lim)(h4:q<bs.length):skR bs l (bs.length+1-q) q=q∧qaz bs l q=false∧qaI bs l q 9=(8,(q:Int)):=by
 obtain⟨c,hc⟩:∃c,bs[q]? = some c:=⟨_,List.getElem?_eq_getElem h4⟩
 refine⟨?_,qaJ hl hc h3,qaU hl hc h3 9⟩
 rcases qfJ hl (bs.length+1-q) q ⟨by omega,by omega⟩ with ⟨q',h1,h2,h3',h4',_⟩|⟨q',h1,h2,h3',h4'⟩
 ·have:=h3'.2
  rw[h2]
  omega
 ·rw[h2]
  omega
end
end Go.Proofs.YtllcbnfmihfaaaaGreatDoor
