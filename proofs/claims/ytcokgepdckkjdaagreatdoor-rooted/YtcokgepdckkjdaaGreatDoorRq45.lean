import Derived.Test.YtcokgepdckkjdaaGreatDoorRq41
import Derived.Test.YtcokgepdckkjdaaGreatDoorRq44
set_option maxRecDepth 100000
set_option maxHeartbeats 8000000
namespace Go.Proofs.YtcokgepdckkjdaaGreatDoor
open Go.Proofs.Tryz
variable {V W:World}{A y:Array Value}{b k:Nat}{kv u:Value}{ex:Nat->Prop}{kl:List (List UInt8)}{ds:List (DataW Unit)}
section
open Go.RowKit Go.Lib
structure Two (W W':World)(kv u:Value):Prop where
 os:W'.os=W.os
 tape:W'.tape=W.tape
 output:W'.output=W.output
 size:W.heap.size<=W'.heap.size
 block:∀j,j<W.heap.size->some j≠kv.ownBlock->some j≠u.ownBlock->W'.heap[j]? = W.heap[j]?
theorem qyj {W':World}(h:Below W.heap.size W W')(b u:Value):Two W W' b u:=⟨h.os,h.tape,h.output,h.size,fun j a _ _=>h.block j a⟩
def qyR (k:Nat)(bs:List UInt8)(lim:Int)(W:World)(b:Nat)(kv u:Value)(ex:Nat->Prop)(kl:List (List UInt8))(ds:List (DataW Unit))(r:Except (Int×Int) ((List (List UInt8)×List (Lit×DataW Unit))×Nat))(e:Ending)(W':World):Prop :=
 Two W W' kv u/\∃r',qyi bs lim r r'/\match r' with
 |.ok (x,q)=>InR bs lim q/\∃l dd a n c a' n' c',x=(l::kl.reverse,esZ kl ds++[(.string l,dd)])/\e=.returned (.tuple #[.agg (thA 7 0 ⟨#[]⟩ (.slice a n c) (.slice a' n' c')),.int .i64 q,.agg (qqp (0,0))])/\qyG k W' b (.slice a n c) (.slice a' n' c') ex (kl++[l]) (ds++[dd])
 |.error f=>∃kd n s a i j b p m z,e=.returned (.tuple #[.agg (thA kd n s (.slice a i j) (.slice b p m)),.int .i64 z,.agg (qqp f)])
structure qyw (W:World)(A y:Array Value)(V:World):Prop where
 box:V.heap[W.heap.size]? = some (.cells A 77)
 mv:V.heap[W.heap.size+1]? = some (.cells y 55)
 th:V.heap[W.heap.size+2]? = some (.cells th0 55)
 flt:V.heap[W.heap.size+3]? = some (.cells (qqp (0,0)) 57)
 below:Below W.heap.size W V
structure EnS (W:World)(A y:Array Value)(Z:World):Prop where
 box:Z.heap[W.heap.size]? = some (.cells A 77)
 mv:Z.heap[W.heap.size+1]? = some (.cells y 55)
theorem qyw.s (h:qyw W A y V):EnS W A y V:=⟨h.box,h.mv⟩
theorem EnS.set (h:EnS W A y V)(j:Nat)(cs:Array Value)(a:W.heap.size+2<=j):EnS W A y (V.setRow j cs):=⟨sx (by omega) h.box,sx (by omega) h.mv⟩
theorem EnS.lt (h:EnS W A y V):W.heap.size+1<V.heap.size:=ltA h.mv
theorem EnS.new (h:EnS W A y V)(o:Obj):EnS W A y (V.alloc o):=⟨(Below.heap_alloc _ _ _ (by have:=h.lt;omega)).trans h.box,(Below.heap_alloc _ _ _ h.lt).trans h.mv⟩
theorem qyw.next {V':World}(h:qyw W A y V)(a:Below V.heap.size V V'):qyw W A y V' :=
 ⟨(a.block _ (ltA h.box)).trans h.box,(a.block _ (ltA h.mv)).trans h.mv,(a.block _ (ltA h.th)).trans h.th,(a.block _ (ltA h.flt)).trans h.flt,h.below.trans (a.mono h.below.size)⟩
theorem qyw.drew (h:qyw W A y V):qyw W A y V.drew:=⟨h.box,h.mv,h.th,h.flt,h.below.drew⟩
theorem qyw.size (h:qyw W A y V):W.heap.size+4<=V.heap.size:=ltA h.flt
theorem qyw.set (h:qyw W A y V)(j:Nat)(cs:Array Value)(a:W.heap.size+4<=j):qyw W A y (V.setRow j cs) :=
 ⟨sx (by omega) h.box,sx (by omega) h.mv,sx (by omega) h.th,sx (by omega) h.flt,qah h.below (by omega) _⟩
theorem qzb (W:World)(A y:Array Value):qyw W A y ((((W.alloc (.cells A 77)).alloc (.cells y 55)).alloc (.cells th0 55)).alloc (.cells (qqp (0,0)) 57)):=by
 have d:=qac W (.cells A 77);have a:=qac (W.alloc (.cells A 77)) (.cells y 55);have b:=qac ((W.alloc (.cells A 77)).alloc (.cells y 55)) (.cells th0 55);have c:=qac (((W.alloc (.cells A 77)).alloc (.cells y 55)).alloc (.cells th0 55)) (.cells (qqp (0,0)) 57);simp only[World.size_alloc] at a b c;have e:Below W.heap.size W ((((W.alloc (.cells A 77)).alloc (.cells y 55)).alloc (.cells th0 55)).alloc (.cells (qqp (0,0)) 57)):=(((bwA).alloc (by simp) _).alloc (by simp;omega) _).alloc (by simp;omega) _;refine⟨?_,?_,?_,c,e⟩
 ·rw[Below.heap_alloc _ _ _ (by simp only[World.size_alloc];omega),Below.heap_alloc _ _ _ (by simp only[World.size_alloc];omega),Below.heap_alloc _ _ _ (by simp only[World.size_alloc];omega)];exact d
 ·rw[Below.heap_alloc _ _ _ (by simp only[World.size_alloc];omega),Below.heap_alloc _ _ _ (by simp only[World.size_alloc];omega)];exact a
 rw[Below.heap_alloc _ _ _ (by simp only[World.size_alloc];omega)];exact b
theorem qyw.fin (h:qyw W A y V)(z:Array Value)(x:Int×Int):((V.setRow (W.heap.size+2) z).setRow (W.heap.size+3) (qqp x)).heap[W.heap.size+2]? = some (.cells z 55)/\((V.setRow (W.heap.size+2) z).setRow (W.heap.size+3) (qqp x)).heap[W.heap.size+3]? = some (.cells (qqp x) 57)/\Below W.heap.size W ((V.setRow (W.heap.size+2) z).setRow (W.heap.size+3) (qqp x)):=by
 refine⟨?_,?_,qah (qah h.below (by omega) _) (by omega) _⟩
 ·rw[setRow_other _ _ _ _ (by omega)];exact setRow_heap _ _ _ _ _ _ h.th
 exact setRow_heap _ _ _ _ _ _ (sx (by omega) h.flt)
theorem qyw.map (h:qyw W A y V)(c:qyG k W b kv u ex kl ds):qyG k V b kv u ex kl ds:=c.next h.below.size (fun j _ a _=>h.below.block j a)
structure EnW (W:World)(y:Array Value)(kv u:Value)(V:World):Prop where
 mv:V.heap[W.heap.size+1]? = some (.cells y 55)
 th:V.heap[W.heap.size+2]? = some (.cells th0 55)
 flt:V.heap[W.heap.size+3]? = some (.cells (qqp (0,0)) 57)
 two:Two W V kv u
theorem EnW.size (h:EnW W y kv u V):W.heap.size+4<=V.heap.size:=ltA h.flt
theorem qyw.w (h:qyw W A y V)(a u:Value):EnW W y a u V:=⟨h.mv,h.th,h.flt,qyj h.below a u⟩
theorem EnW.drew (h:EnW W y kv u V):EnW W y kv u V.drew:=⟨h.mv,h.th,h.flt,⟨h.two.os,h.two.tape,h.two.output,h.two.size,h.two.block⟩⟩
theorem EnW.grow {w5:World}{o:Obj}(h:EnW W y kv u V){x:Option Nat}(k:∀g,x=some g->g<W.heap.size/\(x=kv.ownBlock\/x=u.ownBlock))(a:(V.alloc o).grownBy w5 x):EnW W y kv u w5:=by
 have n:=h.size;have m:V.heap.size+1<=w5.heap.size:=by have:=a.size;simpa using this
 have c:∀j,W.heap.size<=j->j<V.heap.size->w5.heap[j]? = V.heap[j]?:=fun j i l=>(a.block j (by simp;omega) (fun e=>by have:=(k j e.symm).1;omega)).trans (Below.heap_alloc _ _ _ l);refine⟨(c _ (by omega) (by omega)).trans h.mv,(c _ (by omega) (by omega)).trans h.th,(c _ (by omega) (by omega)).trans h.flt,a.os.trans h.two.os,a.tape.trans h.two.tape,a.output.trans h.two.output,by omega,fun j i d f => ?_⟩;refine(a.block j (by simp;omega) (fun e => ?_)).trans ((Below.heap_alloc _ _ _ (by omega)).trans (h.two.block j i d f));rcases(k j e.symm).2 with b|b
 ·exact d (e.trans b)
 exact f (e.trans b)
theorem EnW.cell {kd n:Int}{s:ByteArray}{kx ux:Value}(h:EnW W (thA kd n s kx ux) kv u V)(a:Value):EnW W (thA kd n s a ux) kv u (V.setCell ⟨W.heap.size+1,3,none⟩ a)/\EnW W (thA kd n s kx a) kv u (V.setCell ⟨W.heap.size+1,4,none⟩ a):=by
 have b:∀i j,j≠W.heap.size+1->(V.setCell ⟨W.heap.size+1,i,none⟩ a).heap[j]? = V.heap[j]?:=fun i j c=>heap_setCell_other V _ _ _ (by simpa using c);have d:∀i,Two W (V.setCell ⟨W.heap.size+1,i,none⟩ a) kv u:=fun i=>⟨h.two.os,h.two.tape,h.two.output,by have:=h.two.size;simpa [World.setCell] using this,fun j c e f=>(b i j (by omega)).trans (h.two.block j c e f)⟩
 refine⟨⟨?_,(b _ _ (by omega)).trans h.th,(b _ _ (by omega)).trans h.flt,d 3⟩,⟨?_,(b _ _ (by omega)).trans h.th,(b _ _ (by omega)).trans h.flt,d 4⟩⟩
 ·rw[heap_setCell_same _ _ _ _ _ _ h.mv];rfl
 rw[heap_setCell_same _ _ _ _ _ _ h.mv];rfl
theorem EnW.fin (h:EnW W y kv u V)(z:Array Value)(x:Int×Int):((V.setRow (W.heap.size+2) z).setRow (W.heap.size+3) (qqp x)).heap[W.heap.size+2]? = some (.cells z 55)/\((V.setRow (W.heap.size+2) z).setRow (W.heap.size+3) (qqp x)).heap[W.heap.size+3]? = some (.cells (qqp x) 57)/\Two W ((V.setRow (W.heap.size+2) z).setRow (W.heap.size+3) (qqp x)) kv u:=by
 refine⟨?_,?_,h.two.os,h.two.tape,h.two.output,by have:=h.two.size;simpa using this,fun j c a b => ?_⟩
 ·rw[setRow_other _ _ _ _ (by omega)];exact setRow_heap _ _ _ _ _ _ h.th
 ·exact setRow_heap _ _ _ _ _ _ (sx (by omega) h.flt)
 rw[setRow_other _ _ _ _ (by omega),setRow_other _ _ _ _ (by omega)];exact h.two.block j c a b
theorem q22 {L S:Nat}{V12 w13 w13' w14 wf:World}{v' u':Value}{t:List UInt8}{d:DataW Unit}{a:Array Value}{xs:List Value}(p:qyG k W b kv u ex kl ds)(y:∀j,ex j->j<W.heap.size)(w:W.ownsRow b 55 5 u ds.length xs)(V:∀(i:Nat) (d:DataW Unit),ds[i]? = some d->∃a,qz1 xs i a/\qxY k W (fun j=>b<=j/\j<W.heap.size/\some j≠u.ownBlock/\¬(some j=kv.ownBlock\/ex j)) (.agg a) d)(hb:b<=W.heap.size)(U:∀j,j<W.heap.size->V12.heap[j]? = W.heap[j]?)(aa:qxY k V12 (fun j=>L<=j/\j<S) (.agg a) d)(hL:W.heap.size+4<=L)(hS:S<=V12.heap.size)(h4:W.heap.size+4<=V12.heap.size)(X:a.size=5)(C:w13.ownsRow b 9 1 v' (kl.length+1) (kl.map qyh++[qyh t]))(Y:∀j,j<V12.heap.size->some j≠kv.ownBlock->w13.heap[j]? = V12.heap[j]?)(q:v'.ownBlock=kv.ownBlock\/v'.ownBlock=some (V12.heap.size+1))(ad:V12.heap.size+1<=w13.heap.size)(F:∀j,j≠W.heap.size+1->w13'.heap[j]? = w13.heap[j]?)(af:w13'.heap.size=w13.heap.size)(K:w14.ownsRow b 55 5 u' (ds.length+1) (xs++a.toList))(I:∀j,j<w13'.heap.size->some j≠u.ownBlock->w14.heap[j]? = w13'.heap[j]?)(r:u'.ownBlock=u.ownBlock\/u'.ownBlock=some (w13'.heap.size+1))(ae:w13'.heap.size+1<=w14.heap.size)(z:∀j,(j<W.heap.size\/W.heap.size+4<=j)->wf.heap[j]? = w14.heap[j]?)(ag:w14.heap.size<=wf.heap.size):qyG k wf b v' u' ex (kl++[t]) (ds++[d]):=by
 have M:∀g,kv.ownBlock=some g->g<W.heap.size:=fun g e=>qy0 p.keys e;have E:∀g,u.ownBlock=some g->g<W.heap.size:=fun g e=>qy0 w e;have ab:∀g,v'.ownBlock=some g->g<w13.heap.size:=fun g e=>qy0 C e;have G:∀j,(j<W.heap.size\/W.heap.size+4<=j)->j<V12.heap.size->some j≠kv.ownBlock->some j≠u.ownBlock->wf.heap[j]? = V12.heap[j]?:=fun j c Z l f=>by
  rw[z j c,I j (by omega) f,F j (by omega),Y j Z l]
 have N:∀j,j<V12.heap.size->some j≠kv.ownBlock->¬some j=v'.ownBlock:=fun j c l e=>by
  rcases q with h|h
  ·exact l (e.trans h)
  rw[h] at e;injection e with e;omega
 have O:∀j,j<V12.heap.size->some j≠u.ownBlock->some j≠u'.ownBlock:=fun j c l e=>by
  rcases r with h|h
  ·exact l (e.trans h)
  rw[h] at e;injection e with e;omega
 have H:∀g,v'.ownBlock=some g->¬u.ownBlock=some g:=fun g e f=>by
  rcases q with h|h
  ·exact p.apart g (h.symm.trans e) f
  have:=E g f;rw[h] at e;injection e with e;omega
 refine⟨?_,⟨xs++a.toList,?_,fun i T o => ?_⟩,by rw[List.length_append,List.length_append,p.len];rfl,fun g l f => ?_,fun g e m => ?_,fun g e m => ?_⟩
 ·rw[List.length_append,List.map_append];refine⟨C.1,?_⟩;rcases C.2 with h|⟨g,s,v,e,A,m,x⟩
  ·exact .inl h
  have ac:=ltA m;have n:v'.ownBlock=some g:=by rw[e];rfl
  have D:g<W.heap.size\/W.heap.size+4<=g:=by
   rcases q with h|h
   ·exact .inl (M g (h.symm.trans n))
   rw[h] at n;injection n with n;omega
  refine .inr ⟨g,s,v,e,A,?_,x⟩;rw[z g D,I g (by omega) (fun e=>H g n e.symm),F g (by omega)];exact m
 ·rw[List.length_append];refine⟨K.1,?_⟩;rcases K.2 with h|⟨g,s,v,e,A,m,x⟩
  ·exact .inl h
  have n:u'.ownBlock=some g:=by rw[e];rfl
  have D:g<W.heap.size\/W.heap.size+4<=g:=by
   rcases r with h|h
   ·exact .inl (E g (h.symm.trans n))
   rw[h] at n;injection n with n;omega
  refine .inr ⟨g,s,v,e,A,?_,x⟩;rw[z g D];exact m
 ·by_cases J:i<ds.length
  ·rw[List.getElem?_append_left J] at o;obtain⟨R,l,f⟩:=V i T o;exact⟨R,qzB w.1 J l,f.same (fun j c=>⟨c.1,by have:=c.2.1;omega,O j (by have:=c.2.1;omega) c.2.2.1,fun B=>B.elim (N j (by have:=c.2.1;omega) (fun e=>c.2.2.2 (.inl e))) (fun e=>c.2.2.2 (.inr e))⟩) (fun j c=>(G j (.inl c.2.1) (by have:=c.2.1;omega) (fun e=>c.2.2.2 (.inl e)) c.2.2.1).trans (U j c.2.1))⟩
  have e:i=ds.length:=by
   have:=ltL o;rw[List.length_append] at this;simp at this;omega
  subst e;rw[List.getElem?_append_right (Nat.le_refl _),Nat.sub_self] at o;injection o with o;subst o;have P:∀j,W.heap.size<=j->some j≠kv.ownBlock:=fun j c e=>by have:=M j e.symm;omega
  have Q:∀j,W.heap.size<=j->some j≠u.ownBlock:=fun j c e=>by have:=E j e.symm;omega
  exact⟨a,qzr w.1 X,aa.same (fun j c=>⟨by have:=c.1;omega,by have:=c.2;omega,O j (by have:=c.2;omega) (Q j (by have:=c.1;omega)),fun B=>B.elim (N j (by have:=c.2;omega) (P j (by have:=c.1;omega))) (fun e=>by have:=y j e;have:=c.1;omega)⟩) (fun j c=>G j (.inr (by have:=c.1;omega)) (by have:=c.2;omega) (P j (by have:=c.1;omega)) (Q j (by have:=c.1;omega)))⟩
 ·rcases r with h|h
  ·exact H g l (h.symm.trans f)
  have:=ab g l;rw[h] at f;injection f with f;omega
 ·rcases q with h|h
  ·exact p.exk g (h.symm.trans e) m
  rw[h] at e;injection e with e;have:=y g m;omega
 rcases r with h|h
 ·exact p.exu g (h.symm.trans e) m
 rw[h] at e;injection e with e;have:=y g m;omega

end
end Go.Proofs.YtcokgepdckkjdaaGreatDoor
