import Derived.Test.YtllcbnfmihfaaaaGreatDoorTq22
import Derived.Test.YtllcbnfmihfaaaaGreatDoorTq23
set_option maxRecDepth 100000
set_option maxHeartbeats 8000000
namespace Go.Proofs.YtllcbnfmihfaaaaGreatDoor
open Go.Proofs.Tryz
variable {P:Program}{ops:Array Oper}{Q:Exit→Act→World→Prop}{md:Region.Mode}{S:World→Prop}{N base fuel i n size:Nat}{listed:Array Bool}{a:Act}{V V' W w:World}{o:Oper}{f:FuncId}{r:Ending}{bs cur:List UInt8}{d fm l:Int}{F G:Nat→Prop}{v v':Value}{xs:List Value}{s:ByteArray}
section
open Go.RowKit
def qxX (l:List UInt8):Value:=.string ⟨l.toArray⟩
theorem qzm (W:World)(F:Nat→Prop)(v:Value)(ks:List (List UInt8))(s:List UInt8)(h:qb1 W 9 1 F v ks.length (ks.map qxX))(hk:ks.length≤200000000):Calls prog 210 #[v,.string ⟨s.toArray⟩] W fun e W'=>e=.returned (.bool (decide (s∈ks)))∧W'=W:=by
 obtain⟨R,HR⟩:∃R,Hid (decide (s∈ks)=R):=⟨_,show _=_ from rfl⟩
 rw[HR.out];obtain⟨a,cap,rfl,HC⟩:∃a cap,v=.slice a ks.length cap∧Hid (∀(j:Nat) (x:List UInt8),ks[j]? = some x→∃g,a=some ⟨g,0,none⟩∧W.cell? ⟨g,j,none⟩=some (qxX x)):=by
  obtain⟨h1,h2⟩:=h;rcases h2 with ⟨rfl,h0⟩|⟨g,cap,cur,rfl,hf,hg,h3,h4,h5,h6⟩
  ·refine⟨none,0,by rw[h0],fun j x hx => ?_⟩;have:=ltL hx;omega
  refine⟨_,cap,rfl,fun j x hx=>⟨g,rfl,?_⟩⟩;rw[qab hg j];have hj:=ltL hx;have h7:(cur.toList.take (ks.length*1))[j]? = some (qxX x):=by rw[h6,List.getElem?_map,hx];rfl
  rw[List.getElem?_take_of_lt (by omega)] at h7;simpa using h7
 go_enter func210,ntmps210;go_wp2
 go_loopg [5] ks.length (fun g z wr=>wr=W∧∃k:Nat,z=.int .i64 k∧Hid (k+g=ks.length)∧Hid (decide (s∈ks.drop k)=R))
 case atStart=>exact⟨rfl,0,rfl,by show _=_;omega,HR⟩
 case round =>
  obtain⟨rfl,k,rfl,hg,HR⟩:=hrel;have hr:=HR.out
  cases gk with
  |zero =>
   rw[List.drop_eq_nil_of_le (by have:=hg.out;omega)] at hr;have HE:Hid (R=false):=by show _=_;rw[←hr];simp
   have hlt:¬(k:Int)<(ks.length:Int):=by have:=hg.out;omega
   go_wp2;go_ret;rw[HE.out];exact⟨rfl,rfl⟩
  |succ g =>
   have hkk:k<ks.length:=by have:=hg.out;omega
   have hlt:(k:Int)<(ks.length:Int):=by omega
   obtain⟨x,hx⟩:∃x,ks[k]? = some x:=⟨_,List.getElem?_eq_getElem hkk⟩
   obtain⟨gb,rfl,hcell⟩:=HC.out k x hx;unfold qxX at hcell;rw[List.drop_eq_getElem_cons hkk,(List.getElem?_eq_some_iff.1 hx).2] at hr;by_cases he:x=s
   ·have HE:Hid (R=true):=by show _=_;rw[←hr,he];simp
    have hse:(x==s)=true:=by rw[he];exact beq_self_eq_true s
    go_wp2;go_ret;rw[HE.out];exact⟨rfl,rfl⟩
   have HN:Hid (decide (s∈ks.drop (k+1))=R):=by
    show _=_;rw[←hr];simp[List.mem_cons,Ne.symm he]
   have hse:(x==s)=false:=by simpa using he
   go_wp2;go_roundg g
   case measure=>omega
   case rel=>exact⟨rfl,k+1,by go_num,by show _=_;have:=hg.out;omega,HN⟩
theorem q45 {K':Act→World→Prop}(hK:Shut (∀a w,S w→(S w→wpAnyH P md ops Q S fuel listed a w)→K' a w))(hw:Region.wanted o (yielded ops a.tmps)=true)(ty:TypeId)(x y:Operand)(ho:o.op=.store ty x y)(hd:o.dst=none)(g:Nat)(cells:Array Value)(hx:a.eval x=.pointer (some ⟨g,0,none⟩))(hy:a.eval y=.agg cells)(t:TypeId)(old:Array Value)(hg:w.heap[g]? = some (.cells old t (0,0)))(hi:(P.info? ty).map (·.size)=some cells.size)(hold:old.size=cells.size)(h1:cells.all (·.oneCell')=true)(hS:S (w.setRow g cells))(h:wpAnyH P md ops Q S fuel listed a (w.setRow g cells)):if Region.wanted o (yielded ops a.tmps)=true then Oper.wp P o a w K' Q else K' (a.put o.dst undef) w:=by
 rw[if_pos hw];refine wp_store_row ty x y ho g cells hx hy t old hg hi hold h1 ?_;rw[hd];exact hK _ _ hS (fun _=>h)
theorem qzQ (i:Nat)(hr:Region.ready md ops listed=[i])(hi:ops[i]? = some o)(hw:Region.wanted o (yielded ops a.tmps)=true)(ty:TypeId)(x y:Operand)(ho:o.op=.store ty x y)(hd:o.dst=none)(g:Nat)(cells:Array Value)(hx:a.eval x=.pointer (some ⟨g,0,none⟩))(hy:a.eval y=.agg cells)(t:TypeId)(old:Array Value)(hg:w.heap[g]? = some (.cells old t (0,0)))(hz:(P.info? ty).map (·.size)=some cells.size)(hold:old.size=cells.size)(h1:cells.all (·.oneCell')=true)(hS:S (w.setRow g cells))(h:wpAnyH P md ops Q S fuel (listed.setIfInBounds i true) a (w.setRow g cells)):wpAnyH P md ops Q S (fuel+1) listed a w :=
 wpAnyH_ready hr (by simp) (AllReadyH.cons hi (fun _ hK=>q45 hK hw ty x y ho hd g cells hx hy t old hg hz hold h1 hS h) AllReadyH.nil)
theorem sF (i x y g:Nat)(F:Int×Int)(hk:(Region.ready md ops listed,ops[i]?.map fun o=>(Region.wanted o (yielded ops a.tmps),o.op,o.dst),a.eval (.tmp x),a.eval (.tmp y))=([i],some (true,.store 95 (.tmp x) (.tmp y),none),.pointer (some ⟨g,0,none⟩),.agg (qqp F)))(hg:w.heap[g]? = some (.cells (qqp (0,0)) 95))(hS:S (w.setRow g (qqp F)))(h:wpAnyH prog md ops Q S fuel (listed.setIfInBounds i true) a (w.setRow g (qqp F))):wpAnyH prog md ops Q S (fuel+1) listed a w:=by
 obtain⟨h1,h2⟩:=Prod.mk.inj hk;obtain⟨h2,h3⟩:=Prod.mk.inj h2;obtain⟨h3,h4⟩:=Prod.mk.inj h3;obtain⟨o,ho,h5⟩:=Option.map_eq_some_iff.1 h2;obtain⟨h5,h6⟩:=Prod.mk.inj h5;obtain⟨h6,h7⟩:=Prod.mk.inj h6;exact qzQ i h1 ho h5 _ _ _ h6 h7 g _ h3 h4 _ _ hg (qyj _) rfl (qy7 _) hS h
theorem sTh (i x y g:Nat)(T:Array Value)(hk:(Region.ready md ops listed,ops[i]?.map fun o=>(Region.wanted o (yielded ops a.tmps),o.op,o.dst),a.eval (.tmp x),a.eval (.tmp y))=([i],some (true,.store 93 (.tmp x) (.tmp y),none),.pointer (some ⟨g,0,none⟩),.agg T))(hg:w.heap[g]? = some (.cells th0 93))(hT:ThG T)(hS:S (w.setRow g T))(h:wpAnyH prog md ops Q S fuel (listed.setIfInBounds i true) a (w.setRow g T)):wpAnyH prog md ops Q S (fuel+1) listed a w:=by
 obtain⟨h1,h2⟩:=Prod.mk.inj hk;obtain⟨h2,h3⟩:=Prod.mk.inj h2;obtain⟨h3,h4⟩:=Prod.mk.inj h3;obtain⟨o,ho,h5⟩:=Option.map_eq_some_iff.1 h2;obtain⟨h5,h6⟩:=Prod.mk.inj h5;obtain⟨h6,h7⟩:=Prod.mk.inj h6;exact qzQ i h1 ho h5 _ _ _ h6 h7 g _ h3 h4 _ _ hg (by rw[hT.1];exact qyL) (by rw[hT.1];rfl) hT.2 hS h
theorem zF {rest:List Oper}(x y:Nat)(hgd:o.guard=none)(ho:o.op=.store 95 (.tmp x) (.tmp y))(g:Nat)(F:Int×Int)(hh:a.eval (.tmp x)=.pointer (some ⟨g,0,none⟩)∧a.eval (.tmp y)=.agg (qqp F)∧w.heap[g]? = some (.cells (qqp (0,0)) 95))(h:wpList prog ops Q rest (a.put o.dst undef) (w.setRow g (qqp F))):wpList prog ops Q (o::rest) a w:=stF x y hgd ho g F hh.1 hh.2.1 hh.2.2 h
theorem zT {rest:List Oper}(x y:Nat)(hgd:o.guard=none)(ho:o.op=.store 93 (.tmp x) (.tmp y))(g:Nat)(T:Array Value)(hh:a.eval (.tmp x)=.pointer (some ⟨g,0,none⟩)∧a.eval (.tmp y)=.agg T∧w.heap[g]? = some (.cells th0 93)∧ThG T)(h:wpList prog ops Q rest (a.put o.dst undef) (w.setRow g T)):wpList prog ops Q (o::rest) a w:=stT x y hgd ho g T hh.1 hh.2.1 hh.2.2.1 hh.2.2.2 h
theorem RTh.ck {args:Array Value}{Q:Ending→World→Prop}(h:RTh W (inA bs fm d l) V)(c:Calls P f args V fun e W'=>e=r∧Below V.heap.size V W')(k:∀w,Hid (RTh W (inA bs fm d l) w)→w.cell? ⟨W.heap.size,0,none⟩=(#[.string ⟨bs.toArray⟩,.int .i64 fm,.int .i64 d,.int .i64 l]:Array Value)[0]?→w.cell? ⟨W.heap.size,1,none⟩=(#[.string ⟨bs.toArray⟩,.int .i64 fm,.int .i64 d,.int .i64 l]:Array Value)[1]?→w.cell? ⟨W.heap.size,2,none⟩=(#[.string ⟨bs.toArray⟩,.int .i64 fm,.int .i64 d,.int .i64 l]:Array Value)[2]?→w.cell? ⟨W.heap.size,3,none⟩=(#[.string ⟨bs.toArray⟩,.int .i64 fm,.int .i64 d,.int .i64 l]:Array Value)[3]?→Q r w):Calls P f args V Q:=ck4 c h.next (fun _ h=>h.box) k
theorem RIn.ck {args:Array Value}{Q:Ending→World→Prop}(h:RIn W (inA bs fm d l) N V)(c:Calls P f args V fun e W'=>e=r∧Below V.heap.size V W')(k:∀w,Hid (RIn W (inA bs fm d l) N w)→w.cell? ⟨W.heap.size,0,none⟩=(#[.string ⟨bs.toArray⟩,.int .i64 fm,.int .i64 d,.int .i64 l]:Array Value)[0]?→w.cell? ⟨W.heap.size,1,none⟩=(#[.string ⟨bs.toArray⟩,.int .i64 fm,.int .i64 d,.int .i64 l]:Array Value)[1]?→w.cell? ⟨W.heap.size,2,none⟩=(#[.string ⟨bs.toArray⟩,.int .i64 fm,.int .i64 d,.int .i64 l]:Array Value)[2]?→w.cell? ⟨W.heap.size,3,none⟩=(#[.string ⟨bs.toArray⟩,.int .i64 fm,.int .i64 d,.int .i64 l]:Array Value)[3]?→Q r w):Calls P f args V Q:=ck4 c h.next (fun _ h=>h.box) k
def qzH (xs:List Value)(i:Nat)(a:Array Value):Prop:=(xs.drop (5*i)).take 5=a.toList
def q6v (e:Lit×DataW Unit):Value:=match e.1 with
 |.string l=>qxX l
 |_=>undef
def qyi:Nat→World→(Nat→Prop)→Value→DataW Unit→Prop
 |0,_,_,_,_=>False
 |k+1,V,F,v,d=>match d with
  |.nil=>v=.agg (thA 0 0 ⟨#[]⟩ qxE qxE)
  |.lit (.bool b)=>v=.agg (thA (if b=true then 2 else 1) 0 ⟨#[]⟩ qxE qxE)
  |.lit (.int .i64 z)=>v=.agg (thA 3 z ⟨#[]⟩ qxE qxE) ∧ -9223372036854775808≤z∧z≤9223372036854775807
  |.lit (.string l)=>v=.agg (thA 4 0 ⟨l.toArray⟩ qxE qxE)
  |.ptr (.lit (.string l))=>v=.agg (thA 5 0 ⟨l.toArray⟩ qxE qxE)
  |.agg ds=>∃u xs,v=.agg (thA 6 0 ⟨#[]⟩ qxE u)∧qb1 V 93 5 F u ds.length xs∧∀(i:Nat) (d:DataW Unit),ds[i]? = some d→∃a,qzH xs i a∧qyi k V F (.agg a) d
  |.map es=>∃kv u xs,v=.agg (thA 7 0 ⟨#[]⟩ kv u)∧qb1 V 9 1 F kv es.length (es.map q6v)∧qb1 V 93 5 F u es.length xs∧∀(i:Nat) (key:Lit) (d:DataW Unit),es[i]? = some (key,d)→∃l a,key=.string l∧qzH xs i a∧qyi k V F (.agg a) d
  |_=>False
theorem qyi.same (hFG:∀k,F k→G k)(hk:∀k,F k→V'.heap[k]? = V.heap[k]?):∀{k:Nat} {v:Value} {d:DataW Unit},qyi k V F v d→qyi k V' G v d
 |0,_,_,h=>h
 |k+1,v,d,h=>by
  unfold qyi at h ⊢;split at h
  ·exact h
  ·exact h
  ·exact h
  ·exact h
  ·exact h
  ·obtain⟨u,xs,e,hr,ha⟩:=h;refine⟨u,xs,e,hr.same hFG hk,fun i d h1 => ?_⟩;obtain⟨a,e1,e2⟩:=ha i d h1;exact⟨a,e1,qyi.same hFG hk e2⟩
  ·obtain⟨kv,u,xs,e,hq,hr,ha⟩:=h;refine⟨kv,u,xs,e,hq.same hFG hk,hr.same hFG hk,fun i key d h1 => ?_⟩;obtain⟨l,a,e1,e2,e3⟩:=ha i key d h1;exact⟨l,a,e1,e2,qyi.same hFG hk e3⟩
  exact h
theorem qyi.more:∀{k m:Nat} {v:Value} {d:DataW Unit},k≤m→qyi k V F v d→qyi m V F v d
 |0,_,_,_,_,h=>h.elim
 |k+1,0,_,_,hm,_=>absurd hm (by omega)
 |k+1,m+1,v,d,hm,h=>by
  unfold qyi at h ⊢;split at h
  ·exact h
  ·exact h
  ·exact h
  ·exact h
  ·exact h
  ·obtain⟨u,xs,e,hr,ha⟩:=h;refine⟨u,xs,e,hr,fun i d h1 => ?_⟩;obtain⟨a,e1,e2⟩:=ha i d h1;exact⟨a,e1,qyi.more (by omega) e2⟩
  ·obtain⟨kv,u,xs,e,hq,hr,ha⟩:=h;refine⟨kv,u,xs,e,hq,hr,fun i key d h1 => ?_⟩;obtain⟨l,a,e1,e2,e3⟩:=ha i key d h1;exact⟨l,a,e1,e2,qyi.more (by omega) e3⟩
  exact h
theorem qb1.slice {t:TypeId}(h:qb1 V t size F v n xs):∃a m c,v=.slice a m c:=by
 rcases h.2 with ⟨e,_⟩|⟨g,cap,cur,e,_⟩
 ·exact⟨_,_,_,e⟩
 exact⟨_,_,_,e⟩
theorem qyi.shape {k:Nat}{d:DataW Unit}(h:qyi k V F v d):∃kd n s a i j b p q,v=.agg (thA kd n s (.slice a i j) (.slice b p q)):=by
 cases k with
 |zero=>exact h.elim
 |succ k =>
  unfold qyi at h;split at h
  ·exact⟨_,_,_,_,_,_,_,_,_,h⟩
  ·exact⟨_,_,_,_,_,_,_,_,_,h⟩
  ·exact⟨_,_,_,_,_,_,_,_,_,h.1⟩
  ·exact⟨_,_,_,_,_,_,_,_,_,h⟩
  ·exact⟨_,_,_,_,_,_,_,_,_,h⟩
  ·obtain⟨u,xs,e,hr,_⟩:=h;obtain⟨a,m,c,rfl⟩:=hr.slice;exact⟨_,_,_,_,_,_,_,_,_,e⟩
  ·obtain⟨kv,u,xs,e,hq,hr,_⟩:=h;obtain⟨a,m,c,rfl⟩:=hr.slice;obtain⟨a2,m2,c2,rfl⟩:=hq.slice;exact⟨_,_,_,_,_,_,_,_,_,e⟩
  exact h.elim
theorem qyq {t:TypeId}(h:W.ownsRow base t size v n xs)(F:Nat→Prop)(hF:∀g,base≤g→g<W.heap.size→F g):qb1 W t size F v n xs:=by
 refine⟨h.1,?_⟩;rcases h.2 with h2|⟨g,cap,cur,e,hb,hg,hn,hm,hc,ht⟩
 ·exact .inl h2
 exact .inr ⟨g,cap,cur,e,hF g hb (ltA hg),hg,hn,hm,hc,ht⟩
def qxV (k:Nat)(bs:List UInt8)(lim:Int)(W:World)(r:Except (Int×Int) (DataW Unit×Nat))(e:Ending)(W':World):Prop :=
 Below W.heap.size W W'∧∃r',qy8 bs lim r r'∧match r' with
 |.ok (d,q)=>InR bs lim q∧∃kd n s a i j b p m,e=.returned (.tuple #[.agg (thA kd n s (.slice a i j) (.slice b p m)),.int .i64 q,.agg (qqp (0,0))])∧qyi k W' (fun j=>W.heap.size≤j∧j<W'.heap.size) (.agg (thA kd n s (.slice a i j) (.slice b p m))) d
 |.error f=>∃kd n s a i j b p m z,e=.returned (.tuple #[.agg (thA kd n s (.slice a i j) (.slice b p m)),.int .i64 z,.agg (qqp f)])
theorem q15 {α:Type}{lim:Int}{r r':Except (Int×Int) (α×Nat)}(h:qy8 bs lim r r')(hb:Bad r):Bad r':=by
 intro en pl he;rcases h with h|⟨q,_,_,_,x,h4⟩
 ·exact hb en pl (h.trans he)
 rw[h4] at he;cases he
end
section
open Go.RowKit Go.Lib
def qfU (x:Nat):UInt8:=[48,49,50,51,52,53,54,55,56,57,97,98,99,100,101,102].getD x 0
def qmw (r:Nat):List UInt8:=if r=34∨r=92 then [92,UInt8.ofNat r] else if r<32 then [92,117,48,48,qfU (r / 16),qfU (r%16)] else qcD r
def qd5:Nat→List UInt8→List UInt8
 |0,_=>[]
 |_+1,[]=>[]
 |g+1,b::t=>qmw (decodeL (b::t)).1++qd5 g ((b::t).drop (decodeL (b::t)).2)
def jsT (l:List UInt8):List UInt8:=[34]++qd5 l.length l++[34]
theorem qgt {W':World}{b:Nat}(h:Own W b v bs)(hB:Below W.heap.size W W'):Own W' b v bs:=by
 refine⟨⟨h.1.1,?_⟩,Nat.le_trans h.2.1 hB.size,h.2.2⟩;rcases h.1.2 with h0|⟨g,cap,cur,h0,h1,hh,h2⟩
 ·exact .inl h0
 exact .inr ⟨g,cap,cur,h0,h1,(hB.block g (ltA hh)).trans hh,h2⟩
theorem qoY (g:Nat):qd5 g []=[]:=by cases g<;>rfl
def KpU (W V:World):Prop:=∀(k:Nat) (cs:Array Value) (t:TypeId) (fr:Nat×Nat),W.heap[k]? = some (.cells cs t fr)→t≠5→V.heap[k]? = some (.cells cs t fr)
theorem KpU.refl (W:World):KpU W W:=by intro k cs t fr h _;exact h
theorem KpU.trans {A B C:World}(h:KpU A B)(g:KpU B C):KpU A C:=by intro k cs t fr h1 h2;exact g k cs t fr (h k cs t fr h1 h2) h2
theorem qed (W:World)(o:Obj):KpU W (W.alloc o):=by intro k cs t fr h1 _;exact(Below.heap_alloc _ _ _ (ltA h1)).trans h1
theorem qek (ho:W.ownsRow base 5 1 v n xs)(hg:W.grownBy V v.ownBlock):KpU W V:=by
 intro k cs t fr h1 h2;refine(hg.block k (ltA h1) (fun e => ?_)).trans h1;rcases ho.2 with ⟨h0,_⟩|⟨g,cap,c,h0,_,hh,_⟩
 ·rw[h0] at e;cases e
 rw[h0] at e;injection e with e;have e':k=g:=e;rw[←e',h1] at hh;injection hh with hh;injection hh with _ hh _;exact h2 hh
structure qgU (base:Nat)(W:World)(N:Nat)(s:ByteArray)(i:Nat)(v:Value)(cur:List UInt8)(V:World):Prop where
 own:Own V base v cur
 it:V.heap[N]? = some (.stringIter s i)
 below:Below base W V
 lo:base≤N
 kp:KpU W V
theorem qgU.ne (h:qgU base W N s i v cur V):some N≠v.ownBlock:=by
 intro e;rcases h.own.1.2 with ⟨h0,_⟩|⟨g,cap,c,h0,_,hh,_⟩
 ·rw[h0] at e;cases e
 rw[h0] at e;injection e with e;have e':N=g:=e;rw[←e',h.it] at hh;cases hh
theorem qgU.app {l:List UInt8}{o:Obj}(h:qgU base W N s i v cur V)(hown:V'.ownsRow base 5 1 v' (cur.length+l.length) (cur.map qav++l.map qav))(hg:(V.alloc o).grownBy V' v.ownBlock):qgU base W N s i v' (cur++l) V':=by
 have hB:=qaz ((Below.refl base V).alloc h.own.2.1 _) (h.own.1.alloc _) hg (by have:=h.own.2.1;simp;omega);have hN:=ltA h.it;refine⟨⟨by rw[List.length_append,List.map_append];exact hown,Nat.le_trans h.own.2.1 hB.size,?_⟩,(hg.block N (by simp;omega) h.ne).trans ((Below.heap_alloc _ _ _ hN).trans h.it),h.below.trans hB,h.lo,h.kp.trans ((qed V o).trans (qek (h.own.1.alloc o) hg))⟩;rcases hown.2 with ⟨e,_⟩|⟨g,cap,c,e,_⟩
 ·exact⟨none,0,0,e⟩
 exact⟨_,_,_,e⟩
theorem qgU.appS {l:List UInt8}(h:qgU base W N s i v cur V)(hown:V'.ownsRow base 5 1 v' (cur.length+(⟨l.toArray⟩:ByteArray).size) (cur.map qav++strCells ⟨l.toArray⟩))(hg:V.grownBy V' v.ownBlock):qgU base W N s i v' (cur++l) V':=by
 obtain⟨h1,h2⟩:=qaL h.own hown hg;exact⟨h1,(hg.block N (ltA h.it) h.ne).trans h.it,h.below.trans h2,h.lo,h.kp.trans (qek h.own.1 hg)⟩
theorem qgU.next (h:qgU base W N s i v cur V)(j:Nat):qgU base W N s j v cur (V.putObj N (.stringIter s j)):=by
 have hN:=ltA h.it;have hne:=h.ne;refine⟨⟨⟨h.own.1.1,?_⟩,by simpa [World.putObj] using h.own.2.1,h.own.2.2⟩,by simp[World.putObj,hN],qbs h.below h.lo _,h.lo,?hkp⟩
 case hkp =>
  intro k cs t fr k1 k2;have k3:=h.kp k cs t fr k1 k2;refine((grownBy_putObj' V N (.stringIter s j)).block k (ltA k3) (fun e => ?_)).trans k3;injection e with e;rw[e,h.it] at k3;cases k3
 rcases h.own.1.2 with h0|⟨g,cap,c,h0,h1,hh,h2⟩
 ·exact .inl h0
 refine .inr ⟨g,cap,c,h0,h1,?_,h2⟩;have hgn:g≠N:=by
  rintro rfl;exact hne (by rw[h0];rfl)
 exact((grownBy_putObj' V N (.stringIter s j)).block g (ltA hh) (by simpa using hgn)).trans hh
theorem qgU.drew (h:qgU base W N s i v cur V):qgU base W N s i v cur V.drew:=⟨h.own,h.it,h.below.drew,h.lo,h.kp⟩
theorem qs3 (x:Nat)(hx:x<16)(V:World):(Instr.index 9 (.string ⟨#[48,49,50,51,52,53,54,55,56,57,97,98,99,100,101,102]⟩) (.int .i32 x)).run prog V=.ok (qav (qfU x)) V:=by
 have h:x=0∨x=1∨x=2∨x=3∨x=4∨x=5∨x=6∨x=7∨x=8∨x=9∨x=10∨x=11∨x=12∨x=13∨x=14∨x=15:=by omega
 rcases h with rfl|rfl|rfl|rfl|rfl|rfl|rfl|rfl|rfl|rfl|rfl|rfl|rfl|rfl|rfl|rfl<;>(show _=_;kernel_rfl)
theorem qu2 (r:Nat)(hr:r<32):bits .and .i32 (r:Int) 15=((r%16:Nat):Int):=by
 have h:r=0∨r=1∨r=2∨r=3∨r=4∨r=5∨r=6∨r=7∨r=8∨r=9∨r=10∨r=11∨r=12∨r=13∨r=14∨r=15∨r=16∨r=17∨r=18∨r=19∨r=20∨r=21∨r=22∨r=23∨r=24∨r=25∨r=26∨r=27∨r=28∨r=29∨r=30∨r=31:=by omega
 rcases h with rfl|rfl|rfl|rfl|rfl|rfl|rfl|rfl|rfl|rfl|rfl|rfl|rfl|rfl|rfl|rfl|rfl|rfl|rfl|rfl|rfl|rfl|rfl|rfl|rfl|rfl|rfl|rfl|rfl|rfl|rfl|rfl<;>(show _=_;kernel_rfl)
theorem qlX {ev:Operand→Value}(ty:TypeId)(x y:Operand)(ho:o.op=.index ty x y){X Y:Value}(hx:ev x=X)(hy:ev y=Y)(h:(Instr.index ty X Y).run P W=.ok v W):(execOp ev o).run P W=.ok (.value v) W:=by
 unfold execOp;simp only[ho,hx,hy,Sem.run_bind,h,Result.andThen_ok];rfl
theorem qn8 (a b:UInt8)(V:World):(Instr.buildSlice 28 2 #[(0,qav a),(1,qav b)]).run prog V=.ok (.slice (some ⟨V.heap.size,0,none⟩) 2 2) (V.alloc (.cells #[qav a,qav b] 5)):=by kernel_rfl
theorem qkT {K:Act→World→Prop}(x y:Operand)(ho:o.op=.buildSlice 28 2 #[(0,x),(1,y)])(p q:UInt8)(hx:a.eval x=qav p)(hy:a.eval y=qav q)(h:K (a.put o.dst (.slice (some ⟨w.heap.size,0,none⟩) 2 2)) (w.alloc (.cells #[qav p,qav q] 5))):o.wp prog a w K Q:=by
 have e:(#[(0,x),(1,y)].map fun (i,y)=>(i,a.eval y))=#[((0:Nat),qav p),(1,qav q)]:=by simp[hx,hy]
 unfold Oper.wp execOp;simp only[ho,Sem.run_bind,e,qn8,Result.andThen_ok];exact h
structure KpR (W V:World):Prop where
 size:W.heap.size≤V.heap.size
 row:∀(k:Nat) (cs:Array Value) (t:TypeId) (fr:Nat×Nat),W.heap[k]? = some (.cells cs t fr)→t≠168→t≠240→t≠243→V.heap[k]? = some (.cells cs t fr)
theorem KpR.refl (W:World):KpR W W:=⟨Nat.le_refl _,fun _ _ _ _ h _ _ _=>h⟩
theorem KpR.trans {X:World}(h:KpR W V)(g:KpR V X):KpR W X:=⟨Nat.le_trans h.size g.size,fun k cs t fr a b c d=>g.row k cs t fr (h.row k cs t fr a b c d) b c d⟩
theorem KpR.of_below (h:Below W.heap.size W V):KpR W V:=⟨h.size,fun k _ _ _ a _ _ _=>(h.block k (ltA a)).trans a⟩
theorem KpR.at_ {R:Option Nat}(hs:W.heap.size≤V.heap.size)(hb:∀k,k<W.heap.size→some k≠R→V.heap[k]? = W.heap[k]?)(hr:∀k,R=some k→∀cs t fr,W.heap[k]? = some (.cells cs t fr)→t=168∨t=240∨t=243):KpR W V:=by
 refine⟨hs,fun k cs t fr a b c d => ?_⟩;by_cases e:some k=R
 ·rcases hr k e.symm cs t fr a with h|h|h
  ·exact absurd h b
  ·exact absurd h c
  exact absurd h d
 exact(hb k (ltA a) e).trans a
theorem qb1.kept {t:TypeId}(h:qb1 V t size F v n xs)(hFG:∀k,F k→G k)(hk:KpR V V')(h1:t≠168)(h2:t≠240)(h3:t≠243):qb1 V' t size G v n xs:=by
 obtain⟨a1,a2⟩:=h;refine⟨a1,?_⟩;rcases a2 with a2|⟨g,cap,cur,e,hf,hg,a3⟩
 ·exact .inl a2
 exact .inr ⟨g,cap,cur,e,hFG g hf,hk.row _ _ _ _ hg h1 h2 h3,a3⟩
theorem qai.kept (hFG:∀k,F k→G k)(hk:KpR V V'):∀{k:Nat} {v:Value} {d:DataW Unit},qai k V F v d→qai k V' G v d
 |0,_,_,h=>h
 |k+1,v,d,h=>by
  unfold qai at h ⊢;split at h
  ·exact h
  ·exact h
  ·exact h
  ·exact h
  ·obtain⟨u,e,hr⟩:=h;exact⟨u,e,hr.kept hFG hk (by decide) (by decide) (by decide)⟩
  ·obtain⟨u,xs,e,hr,ha⟩:=h;exact⟨u,xs,e,hr.kept hFG hk (by decide) (by decide) (by decide),fun i x d h1 h2=>qai.kept hFG hk (ha i x d h1 h2)⟩
  ·obtain⟨u,xs,e,hr,ha⟩:=h;refine⟨u,xs,e,hr.kept hFG hk (by decide) (by decide) (by decide),fun i key d h1 => ?_⟩;obtain⟨l,x,e1,e2,e3,e4⟩:=ha i key d h1;exact⟨l,x,e1,e2,e3,qai.kept hFG hk e4⟩
  exact h
end
end Go.Proofs.YtllcbnfmihfaaaaGreatDoor
