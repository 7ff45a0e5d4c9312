import Derived.Test.YtllcbnfmihfaaaaGreatDoorTq28
import Derived.Test.YtllcbnfmihfaaaaGreatDoorTq26
import Derived.Test.YtllcbnfmihfaaaaGreatDoorTq24
set_option maxRecDepth 100000
set_option maxHeartbeats 8000000
namespace Go.Proofs.YtllcbnfmihfaaaaGreatDoor
open Go.Proofs.Tryz
variable {P:Program}{fn:Func}{p q:Tmp}{ops:Array Oper}{b o:Bool}{a:Act}{V W w:World}{Q:Exit→Act→World→Prop}{A:Array Value}{g g2 i k m so x:Nat}{fm l lim n z:Int}{F:Int×Int}{R r:Except (Int×Int) (Nat×Nat×Nat×Nat)}{acc bs:List UInt8}{c:UInt8}
section
open Go.RowKit Go.Lib
theorem qzP {ty ty2:TypeId}(h:fn.results=#[.cell p ty,.cell q ty2])(tmps:Array Value)(w:World)(g g2:Nat)(t t2:TypeId)(cs cs2:Array Value)(fr fr2:Nat×Nat)(d d2:TypeDesc)(hp:tmps.getD p undef=.pointer (some ⟨g,0,none⟩))(hg:w.heap[g]? = some (.cells cs t fr))(hu:P.underlying ty=some d)(hd:(match d with|.struct _|.array _ _=>true|_=>false)=true)(hi:(P.info? ty).map (·.size)=some cs.size)(hp2:tmps.getD q undef=.pointer (some ⟨g2,0,none⟩))(hg2:w.heap[g2]? = some (.cells cs2 t2 fr2))(hu2:P.underlying ty2=some d2)(hd2:(match d2 with|.struct _|.array _ _=>true|_=>false)=true)(hi2:(P.info? ty2).map (·.size)=some cs2.size):(results fn tmps).run P w=.ok (.tuple #[.agg cs,.agg cs2]) w:=by
 have e:(results fn tmps).run P w=((asAddr (tmps.getD p undef)).run P w).andThen fun a w₁=>((loadVar ty a).run P w₁).andThen fun v w₂=>((asAddr (tmps.getD q undef)).run P w₂).andThen fun a2 w₃=>((loadVar ty2 a2).run P w₃).andThen fun v2 w₄=>.ok (.tuple #[v,v2]) w₄:=by
  simp only[results,h];simp[Sem.run_bind,Result.andThen]
 rw[e,hp,hp2];simp only[asAddr,Sem.run_pure,Result.andThen_ok,run_loadVar_row w g t ty cs fr d hg hu hd hi,run_loadVar_row w g2 t2 ty2 cs2 fr2 d2 hg2 hu2 hd2 hi2]
def hdC (k n q:Int)(o:Bool):Array Value:=#[.int .i64 k,.int .i64 n,.int .i64 q,.bool o]
theorem q6T:(prog.info? 294).map (·.size)=some 4:=by kernel_rfl
theorem q2x (k n q:Int)(o:Bool):(prog.info? 294).map (·.size)=some (hdC k n q o).size:=q6T
theorem q26 (k n q:Int)(o:Bool):(hdC 0 0 0 false).size=(hdC k n q o).size:=rfl
theorem q37 (k n q:Int)(o:Bool):(hdC k n q o).all (·.oneCell')=true:=by simp[hdC,Value.oneCell']
theorem stH {rest:List Oper}{o:Oper}(x y:Nat)(hgd:o.guard=none)(ho:o.op=.store 294 (.tmp x) (.tmp y))(g:Nat)(k n q:Int)(b:Bool)(hx:a.eval (.tmp x)=.pointer (some ⟨g,0,none⟩))(hy:a.eval (.tmp y)=.agg (hdC k n q b))(hg:w.heap[g]? = some (.cells (hdC 0 0 0 false) 294))(h:wpList prog ops Q rest (a.put o.dst undef) (w.setRow g (hdC k n q b))):wpList prog ops Q (o::rest) a w :=
 wpList_store_row hgd _ _ _ ho g _ hx hy _ _ hg (q2x _ _ _ _) (q26 _ _ _ _) (q37 _ _ _ _) h
theorem q7k {tmps:Array Value}{k:Int}(h:fn.results=#[.cell p 294,.cell q 95])(hg:w.heap[g]? = some (.cells (hdC k n z b) 294))(hg2:w.heap[g2]? = some (.cells (qqp F) 95))(hp:tmps.getD p undef=.pointer (some ⟨g,0,none⟩))(hp2:tmps.getD q undef=.pointer (some ⟨g2,0,none⟩)):(results fn tmps).run prog w=.ok (.tuple #[.agg (hdC k n z b),.agg (qqp F)]) w :=
 qzP h _ _ g g2 _ _ _ _ _ _ _ _ hp hg underlying294 rfl (q2x _ _ _ _) hp2 hg2 underlying95 rfl (qyj _)
theorem sH {md:Region.Mode}{S:World→Prop}{fuel:Nat}{listed:Array Bool}(i x y g:Nat)(k n q:Int)(b:Bool)(hk:(Region.ready md ops listed,ops[i]?.map fun o=>(Region.wanted o (yielded ops a.tmps),o.op,o.dst),a.eval (.tmp x),a.eval (.tmp y))=([i],some (true,.store 294 (.tmp x) (.tmp y),none),.pointer (some ⟨g,0,none⟩),.agg (hdC k n q b)))(hg:w.heap[g]? = some (.cells (hdC 0 0 0 false) 294))(hS:S (w.setRow g (hdC k n q b)))(h:wpAnyH prog md ops Q S fuel (listed.setIfInBounds i true) a (w.setRow g (hdC k n q b))):wpAnyH prog md ops Q S (fuel+1) listed a w:=by
 obtain⟨h1,h2⟩:=Prod.mk.inj hk;obtain⟨h2,h3⟩:=Prod.mk.inj h2;obtain⟨h3,h4⟩:=Prod.mk.inj h3;obtain⟨o,ho,h5⟩:=Option.map_eq_some_iff.1 h2;obtain⟨h5,h6⟩:=Prod.mk.inj h5;obtain⟨h6,h7⟩:=Prod.mk.inj h6;exact qzQ i h1 ho h5 _ _ _ h6 h7 g _ h3 h4 _ _ hg (q2x _ _ _ _) (q26 _ _ _ _) (q37 _ _ _ _) hS h
theorem eoH {A:Act}{k:Int}{R:Ending→World→Prop}{B:Prop}(h:fn.results=#[.cell p 294,.cell q 95])(hf:w.heap[g]? = some (.cells (hdC k n z b) 294)∧w.heap[g2]? = some (.cells (qqp F) 95)∧B)(hp:A.tmps.getD p undef=.pointer (some ⟨g,0,none⟩))(hp2:A.tmps.getD q undef=.pointer (some ⟨g2,0,none⟩))(hd:A.defers=[])(kk:R (.returned (.tuple #[.agg (hdC k n z b),.agg (qqp F)])) w):bodyPost prog fn R .ret A w:=bodyPost_ret (q7k h hf.1 hf.2.1 hp hp2) hd kk
theorem q7j {k q:Int}{t:TypeId}{fr:Nat×Nat}(h:V.heap[g]? = some (.cells (hdC k n q o) t fr)):V.cell? ⟨g,0,none⟩=some (.int .i64 k)∧V.cell? ⟨g,1,none⟩=some (.int .i64 n)∧V.cell? ⟨g,2,none⟩=some (.int .i64 q)∧V.cell? ⟨g,3,none⟩=some (.bool o):=⟨qab h 0,qab h 1,qab h 2,qab h 3⟩
structure qzT (W:World)(A:Array Value)(V:World):Prop where
 box:V.heap[W.heap.size]? = some (.cells A 143)
 hd:V.heap[W.heap.size+1]? = some (.cells (hdC 0 0 0 false) 294)
 flt:V.heap[W.heap.size+2]? = some (.cells (qqp (0,0)) 95)
 below:Below W.heap.size W V
theorem qzT.next {V':World}(h:qzT W A V)(hb:Below V.heap.size V V'):qzT W A V' :=
 ⟨(hb.block _ (ltA h.box)).trans h.box,(hb.block _ (ltA h.hd)).trans h.hd,(hb.block _ (ltA h.flt)).trans h.flt,h.below.trans (hb.mono h.below.size)⟩
theorem qzT.drew (h:qzT W A V):qzT W A V.drew:=⟨h.box,h.hd,h.flt,h.below.drew⟩
theorem qzT.size (h:qzT W A V):W.heap.size+3≤V.heap.size:=ltA h.flt
theorem q4X (W:World)(A:Array Value):qzT W A (((W.alloc (.cells A 143)).alloc (.cells (hdC 0 0 0 false) 294)).alloc (.cells (qqp (0,0)) 95)) :=
 ⟨((Below.heap_alloc _ _ _ (by simp;omega)).trans (Below.heap_alloc _ _ _ (by simp))).trans (qac _ _),(Below.heap_alloc _ _ _ (by simp)).trans (by have:=qac (W.alloc (.cells A 143)) (.cells (hdC 0 0 0 false) 294);simpa using this),by have:=qac ((W.alloc (.cells A 143)).alloc (.cells (hdC 0 0 0 false) 294)) (.cells (qqp (0,0)) 95);simpa using this,((bwA).alloc (by simp) _).alloc (by simp;omega) _⟩
theorem zH {rest:List Oper}{o:Oper}(x y:Nat)(hgd:o.guard=none)(ho:o.op=.store 294 (.tmp x) (.tmp y))(g:Nat)(k n q:Int)(b:Bool)(hh:a.eval (.tmp x)=.pointer (some ⟨g,0,none⟩)∧a.eval (.tmp y)=.agg (hdC k n q b)∧w.heap[g]? = some (.cells (hdC 0 0 0 false) 294))(h:wpList prog ops Q rest (a.put o.dst undef) (w.setRow g (hdC k n q b))):wpList prog ops Q (o::rest) a w:=stH x y hgd ho g k n q b hh.1 hh.2.1 hh.2.2 h
theorem qzT.ck {f:FuncId}{args:Array Value}{r:Ending}{Q:Ending→World→Prop}{d:Int}(h:qzT W (inA bs fm d l) V)(c:Calls P f args V fun e W'=>e=r∧Below V.heap.size V W')(k:∀w,Hid (qzT W (inA bs fm d l) w)→w.cell? ⟨W.heap.size,0,none⟩=(#[.string ⟨bs.toArray⟩,.int .i64 fm,.int .i64 d,.int .i64 l]:Array Value)[0]?→w.cell? ⟨W.heap.size,1,none⟩=(#[.string ⟨bs.toArray⟩,.int .i64 fm,.int .i64 d,.int .i64 l]:Array Value)[1]?→w.cell? ⟨W.heap.size,2,none⟩=(#[.string ⟨bs.toArray⟩,.int .i64 fm,.int .i64 d,.int .i64 l]:Array Value)[2]?→w.cell? ⟨W.heap.size,3,none⟩=(#[.string ⟨bs.toArray⟩,.int .i64 fm,.int .i64 d,.int .i64 l]:Array Value)[3]?→Q r w):Calls P f args V Q:=ck4 c h.next (fun _ h=>h.box) k
theorem qyH (W:World)(bs:List UInt8)(fm d l:Int):Hid (qzT W (inA bs fm d l) (((W.alloc (.cells #[.string ⟨bs.toArray⟩,.int .i64 fm,.int .i64 d,.int .i64 l] 143)).alloc (.cells #[.int .i64 0,.int .i64 0,.int .i64 0,.bool false] 294)).alloc (.cells #[.int .i64 0,.int .i64 0] 95))):=q4X W _
theorem qzT.fin (h:qzT W A V)(y:Array Value)(x:Int×Int):((V.setRow (W.heap.size+1) y).setRow (W.heap.size+2) (qqp x)).heap[W.heap.size+1]? = some (.cells y 294)∧((V.setRow (W.heap.size+1) y).setRow (W.heap.size+2) (qqp x)).heap[W.heap.size+2]? = some (.cells (qqp x) 95)∧Below W.heap.size W ((V.setRow (W.heap.size+1) y).setRow (W.heap.size+2) (qqp x)):=by
 refine⟨?_,?_,qah (qah h.below (by omega) _) (by omega) _⟩
 ·rw[setRow_other _ _ _ _ (by omega)];exact setRow_heap _ _ _ _ _ _ h.hd
 exact setRow_heap _ _ _ _ _ _ (sx (by omega) h.flt)
def q41 (R:Except (Int×Int) (Nat×Nat))(nv:Int)(ov:Bool)(F:Int×Int):Prop :=
 0≤nv∧nv≤9223372036854775807∧(∀x q,R=.ok (x,q)→F=(0,0)∧nv=min (x:Int) 9223372036854775807∧ov=decide (9223372036854775807<x))∧(∀f,R=.error f→F=f)
theorem q0B (R:Except (Int×Int) (Nat×Nat)):∃nv ov F,q5d R=.tuple #[.int .i64 nv,.bool ov,.agg (qqp F)]∧q41 R nv ov F:=by
 cases R with
 |error f=>exact⟨0,false,f,rfl,by omega,by omega,(fun x q e=>by cases e),(fun f' e=>by injection e)⟩
 |ok y =>
  obtain⟨x,q⟩:=y;unfold q5d;simp only[];by_cases h:9223372036854775807<x
  ·rw[if_pos h];refine⟨_,_,_,rfl,by omega,by omega,(fun x' q' e => ?_),(fun f' e=>by cases e)⟩;injection e with e;injection e with e1 e2;subst e1;exact⟨rfl,by omega,(decide_eq_true h).symm⟩
  rw[if_neg h];refine⟨_,_,_,rfl,by omega,by omega,(fun x' q' e => ?_),(fun f' e=>by cases e)⟩;injection e with e;injection e with e1 e2;subst e1;exact⟨rfl,by omega,(decide_eq_false h).symm⟩
def kdR (so:Nat):Int:=if so=2 then 1 else if so=3 then 2 else if so=4∨so=5∨so=6 then 3 else if so=7 then 5 else if so=8 then 4 else if so=9 then 6 else if so=10 then 7 else 0
def nR (so w x:Nat):Int:=if so=5 then qws x w else if so=6 then -1-min (x:Int) 9223372036854775807 else min (x:Int) 9223372036854775807
def ovR (so x:Nat):Bool:=if so=5 then false else decide (9223372036854775807<x)
def hdR (fm:Int)(bs:List UInt8)(lim:Int)(i:Nat):Except (Int×Int) (Nat×Nat×Nat×Nat):=match bs[i]? with
 |none=>.error (9,(i:Int))
 |some c=>if (i:Int)=lim then .error (8,(i:Int)) else if (hdO fm c.toNat).1=0 then .error (9,(i:Int)) else match qd9 bs lim (hdO fm c.toNat).2.1 (i+1) (hdO fm c.toNat).2.2 with
  |.error f=>.error f
  |.ok (x,q)=>.ok ((hdO fm c.toNat).1,(hdO fm c.toNat).2.1,x,q)
def qxM (r:Except (Int×Int) (Nat×Nat×Nat×Nat))(e:Ending):Prop :=
 ∃a n q o F,e=.returned (.tuple #[.agg (hdC a n q o),.agg (qqp F)])∧(∀so w x p,r=.ok (so,w,x,p)→a=kdR so∧n=nR so w x∧q=(p:Int)∧o=ovR so x∧F=(0,0))∧(∀f,r=.error f→F=f)
theorem qz7 {f:Int×Int}(h:r=.error f)(a n q:Int)(o:Bool):qxM r (.returned (.tuple #[.agg (hdC a n q o),.agg (qqp f)])) :=
 ⟨a,n,q,o,f,rfl,(fun so w x p e=>by rw[h] at e;cases e),(fun f' e=>by rw[h] at e;injection e)⟩
theorem q0Z {w p:Nat}{a q:Int}(h:r=.ok (so,w,x,p))(ha:a=kdR so)(hn:n=nR so w x)(hq:q=(p:Int))(ho:o=ovR so x):qxM r (.returned (.tuple #[.agg (hdC a n q o),.agg (qqp (0,0))])) :=
 ⟨a,n,q,o,(0,0),rfl,(fun so' w' x' p' e=>by rw[h] at e;injection e with e;cases e;exact⟨ha,hn,hq,ho,rfl⟩),(fun f' e=>by rw[h] at e;cases e)⟩
theorem q5p (hc:bs[i]? = some c)(hp:¬(i:Int)=lim)(hi:InR bs lim (i+1))(hh:hdO fm c.toNat=(so,k,0))(h0:¬so=0){nv:Int}{ov:Bool}{a q:Int}(hB:q41 (qd9 bs lim k (i+1) 0) nv ov F)(ha:a=kdR so)(hq:q=(i:Int)+1+k)(hn:∀x:Nat,nv=min (x:Int) 9223372036854775807→n=nR so k x)(ho:∀x:Nat,ov=decide (9223372036854775807<x)→o=ovR so x):qxM (hdR fm bs lim i) (.returned (.tuple #[.agg (hdC a n q o),.agg (qqp F)])):=by
 have e:hdR fm bs lim i=match qd9 bs lim k (i+1) 0 with
  |.error f=>.error f
  |.ok (x,q)=>.ok (so,k,x,q):=by
  unfold hdR;rw[hc];simp only[];rw[if_neg hp,hh,if_neg h0]
 cases hr:qd9 bs lim k (i+1) 0 with
 |error f =>
  rw[hr] at e;have:=hB.2.2.2 f hr;subst this;exact qz7 e _ _ _ _
 |ok y =>
  obtain⟨x,p⟩:=y;rw[hr] at e;obtain⟨h1,h2,h3⟩:=hB.2.2.1 x p hr;subst h1;refine q0Z e ha (hn x h2) ?_ (ho x h3);have:=(qyU k (i+1) 0 x p hi hr).1;rw[hq,this];omega
theorem q03 (hc:bs[i]? = some c)(hp:¬(i:Int)=lim)(hh:hdO fm c.toNat=(so,0,x))(h0:¬so=0):hdR fm bs lim i=.ok (so,0,x,i+1):=by
 unfold hdR;rw[hc];simp only[];rw[if_neg hp,hh,if_neg h0];rfl
theorem q1Q (hc:bs[i]? = some c)(hp:¬(i:Int)=lim)(hh:(hdO fm c.toNat).1=0):hdR fm bs lim i=.error (9,(i:Int)):=by
 unfold hdR;rw[hc];simp only[];rw[if_neg hp,if_pos hh]
def q6Q (R:Except (Int×Int) (Nat×Nat))(kd:Int)(fn:Int→Int)(q:Int)(e:Ending):Prop:=∃nv ov F,e=.returned (.tuple #[.agg (hdC kd (fn nv) q ov),.agg (qqp F)])∧q41 R nv ov F
def kdT (n:Nat):Int:=if n=0 then 3 else if n=1 then 3 else if n=2 then 5 else if n=3 then 4 else if n=4 then 6 else 7
theorem q2p (w:World)(n:Nat)(hn:n<6):(w.alloc (.cells #[.int .i64 3,.int .i64 3,.int .i64 5,.int .i64 4,.int .i64 6,.int .i64 7] 3)).cell? ⟨w.heap.size,n,none⟩=some (.int .i64 (kdT n)):=by
 rw[qab (qac _ _) n]
 match n,hn with
 |0,_=>rfl
 |1,_=>rfl
 |2,_=>rfl
 |3,_=>rfl
 |4,_=>rfl
 |5,_=>rfl
theorem q1a (W:World)(bs:List UInt8)(fm d l lim:Int)(i:Nat)(kd:Int)(k:Nat)(hk:k≤8)(hl:Lm bs l lim)(hi:InR bs lim (i+1))(hb:bs.length≤200000000):Calls prog 232 #[.agg (inA bs fm d l),.int .i64 i,.int .i64 kd,.int .i64 k] W fun e W'=>q6Q (qd9 bs lim k (i+1) 0) kd (fun nv=>nv) ((i:Int)+1+k) e∧Below W.heap.size W W':=by
 have cG0:=fun V=>q0N V bs fm d l lim (i+1) k hk hl hi hb;unfold inA at cG0;obtain⟨nv,ov,F,hbv,hBI⟩:=q0B (qd9 bs lim k (i+1) 0);rw[hbv] at cG0;have cG:=cG0;unfold inA at cG;have hnv0:=hBI.1;have hnv1:=hBI.2.1;have HBI:Hid (q41 (qd9 bs lim k (i+1) 0) nv ov F):=hBI;have HX:=qyH W bs fm d l;have hib:=hi.1;clear hl hi cG0 hbv hBI;unfold inA;go_enter func232,ntmps232
 go_wp2_with (first
  |(go_at_call 231;refine ck (cG _) HX.out.next ?_;clear cG;intro w3 HX3)
  |((with_reducible refine zF 12 21 rfl rfl (w3.heap.size) F ?_ ?_);exact⟨rfl,rfl,qac w3 _⟩;refine nmd ?_;intro V4 EV4;have HX4:Hid (qzT W (inA bs fm d l) V4):=EV4▸HX3.out.next (qxR _ _);have HF4:Hid (V4.heap[w3.heap.size]? = some (.cells (qqp F) 95)):=EV4▸setRow_heap _ _ _ _ _ _ (qac _ _);have HLT:Hid (W.heap.size+3≤w3.heap.size):=HX3.out.size;clear EV4;generalize w3.heap.size=M at *))
 refine rgn (S:=fun Z=>Z.heap[M]? = some (.cells (qqp F) 95)) (HF4.out) (by kernel_rfl) ?_;intro hS;refine tk 8 30 (.agg (qqp F)) rfl (by kernel_rfl) iQ3 (fun Z hZ=>yF 12 hZ rfl rfl) hS ?_;refine tkk 0 22 (.int .i64 kd) (by kernel_rfl) iQ3 hS ?_;refine tkk 1 23 (.int .i64 nv) (by kernel_rfl) iQ3 hS ?_;refine tkk 2 24 (.int .i64 i) (by kernel_rfl) iQ3 hS ?_;refine tk 3 25 (.int .i64 ((i:Int)+1)) rfl (by kernel_rfl) iQ3 (fun Z hZ => ?y3) hS ?_
 case y3=>(go_simp;exact q3x _ (by omega))
 refine tkk 4 26 (.int .i64 k) (by kernel_rfl) iQ3 hS ?_;refine tk 5 27 (.int .i64 ((i:Int)+1+k)) rfl (by kernel_rfl) iQ3 (fun Z hZ => ?y5) hS ?_
 case y5=>(go_simp;exact q3x _ (by omega))
 refine tkk 6 28 (.bool ov) (by kernel_rfl) iQ3 hS ?_;refine tk 7 29 (.agg (hdC kd nv ((i:Int)+1+k) ov)) rfl (by kernel_rfl) iQ3 (fun Z hZ => ?y7) hS ?_
 case y7=>(unfold hdC;go_simp)
 refine sH 9 8 29 (W.heap.size+1) kd nv ((i:Int)+1+k) ov (by kernel_rfl) (HX4.out.drew.hd) ((setRow_other _ (W.heap.size+1) M (hdC kd nv ((i:Int)+1+k) ov) (by have:=HLT.out;omega)).trans hS) ?_;refine sF 10 9 30 (W.heap.size+2) F (by kernel_rfl) (sx (by omega) HX4.out.drew.flt) (sx (by have:=HLT.out;omega) ((setRow_other _ (W.heap.size+1) M (hdC kd nv ((i:Int)+1+k) ov) (by have:=HLT.out;omega)).trans hS)) ?_;refine wpAnyH_done (by kernel_rfl) ?_ _;go_simp;go_wp2;have hf:=HX4.out.drew.fin (hdC kd nv ((i:Int)+1+k) ov) (F);refine eoH results232 hf rfl rfl rfl ⟨?_,hf.2.2⟩;exact⟨nv,ov,F,rfl,HBI.out⟩
theorem q0e (W:World)(bs:List UInt8)(fm d l:Int)(i:Nat)(x:Int×Int)(h2:qr0 bs l i 9=x)(hS:qxM R (.returned (.tuple #[.agg (hdC 0 0 0 false),.agg (qqp x)])))(hw:qyb bs l i=false∨(qyb bs l i=true∧∃c,bs[i]? = some c∧((c.toNat / 32=7∧(c.toNat%32<20∨22<c.toNat%32))∨c.toNat / 32=6∨(c.toNat / 32<6∧27<c.toNat%32)))):Calls prog 207 #[.agg (inA bs fm d l),.int .i64 i] W fun e W'=>qxM R e∧Below W.heap.size W W':=by
 have cB1:=q11 fm d h2;have HX:=qyH W bs fm d l;have HS:=qaa hS;clear h2 hS;unfold inA;rcases hw with h1|⟨h1,c,hc,hw⟩
 rotate_left
 ·have hix:=qxH bs i c hc;have hib:=ltL hc;have hc255:=c.toNat_lt;obtain⟨n,hn⟩:∃n,c.toNat / 32=n:=⟨_,rfl⟩
  obtain⟨m,hm⟩:∃m,c.toNat%32=m:=⟨_,rfl⟩
  rw[hn,hm] at hw;have hq:(c.toNat:Int) / 32=(n:Int):=by omega
  have hr:(c.toNat:Int)%32=(m:Int):=by omega
  have hW:(((n:Int)==7)=true∧decide ((m:Int)<20)=true)∨(((n:Int)==7)=true∧decide ((m:Int)<20)=false∧decide (22<(m:Int))=true)∨(((n:Int)==7)=false∧((n:Int)==6)=true)∨(((n:Int)==7)=false∧((n:Int)==6)=false∧decide (27<(m:Int))=true):=by simp;omega
  have cH1:=qyz fm d h1;clear h1 hc hw hn hm;rcases hW with ⟨t7,tl⟩|⟨t7,tl,tg⟩|⟨t7,t6⟩|⟨t7,t6,tg⟩
  all_goals
   go_enter func207,ntmps207
   go_wp2_with (first
    |(go_at_call 113;refine HX.out.ck (cH1 _) ?_;clear cH1;intro w2 HX2 c0 c1 c2 c3;have n1:W.heap.size<w2.heap.size:=(by have:=HX2.out.size;omega);have n2:W.heap.size<w2.heap.size+1:=(by omega))
    |(go_at_call 71;refine(cB1 _).mono ?_;clear cB1 c0 c1 c2 c3;rintro e w3 ⟨rfl,hB3⟩;have HX3:Hid (qzT W (inA bs fm d l) w3):=(by first|exact HX2.out.next hB3|exact(HX2.out.next (bwO _)).next hB3))
    |((with_reducible refine zH 4 _ rfl rfl (W.heap.size+1) 0 0 0 false ?_ ?_);exact⟨rfl,rfl,HX3.out.hd⟩)
    |((with_reducible refine zF 5 _ rfl rfl (W.heap.size+2) x ?_ ?_);exact⟨rfl,rfl,sx (by omega) HX3.out.flt⟩))
   refine eoH results207 (HX3.out.fin _ _) rfl rfl rfl ⟨HS.out,(HX3.out.fin _ _).2.2⟩
 have cH1:=qyz fm d h1;clear h1;go_enter func207,ntmps207
 go_wp2_with (first
  |(go_at_call 113;refine HX.out.ck (cH1 _) ?_;clear cH1;intro w2 HX2 c0 c1 c2 c3;have n1:W.heap.size<w2.heap.size:=(by have:=HX2.out.size;omega);have n2:W.heap.size<w2.heap.size+1:=(by omega))
  |(go_at_call 71;refine(cB1 _).mono ?_;clear cB1 c0 c1 c2 c3;rintro e w3 ⟨rfl,hB3⟩;have HX3:Hid (qzT W (inA bs fm d l) w3):=HX2.out.next hB3)
  |((with_reducible refine zH 4 _ rfl rfl (W.heap.size+1) 0 0 0 false ?_ ?_);exact⟨rfl,rfl,HX3.out.hd⟩)
  |((with_reducible refine zF 5 _ rfl rfl (W.heap.size+2) x ?_ ?_);exact⟨rfl,rfl,sx (by omega) HX3.out.flt⟩))
 refine eoH results207 (HX3.out.fin _ _) rfl rfl rfl ⟨HS.out,(HX3.out.fin _ _).2.2⟩
theorem qyy (W:World)(bs:List UInt8)(fm d l:Int)(i:Nat)(c:UInt8)(hc:bs[i]? = some c)(h1:qyb bs l i=true)(hb:bs.length≤200000000)(K N:Int)(hS:qxM R (.returned (.tuple #[.agg (hdC K N ((i:Int)+1) false),.agg (qqp (0,0))])))(hw:∃n m:Nat,c.toNat / 32=n∧c.toNat%32=m∧((n=7∧m=20∧K=1∧N=0)∨(n=7∧m=21∧K=2∧N=0)∨(n=7∧m=22∧K=0∧N=0)∨(n<6∧m<24∧n=1∧K=kdT n∧N = -1-(m:Int))∨(n<6∧m<24∧¬n=1∧K=kdT n∧N=m))):Calls prog 207 #[.agg (inA bs fm d l),.int .i64 i] W fun e W'=>qxM R e∧Below W.heap.size W W':=by
 have hix:=qxH bs i c hc;have hib:=ltL hc;have hc255:=c.toNat_lt;have cH1:=qyz fm d h1;have HX:=qyH W bs fm d l;have HS:=qaa hS;obtain⟨n,m,hs,hm,hw⟩:=hw;have hq:(c.toNat:Int) / 32=(n:Int):=by omega
 have hr:(c.toNat:Int)%32=(m:Int):=by omega
 clear h1 hc hs hm hS;unfold inA;rcases hw with ⟨rfl,rfl,rfl,rfl⟩|⟨rfl,rfl,rfl,rfl⟩|⟨rfl,rfl,rfl,rfl⟩|⟨hn,hl,h1,rfl,rfl⟩|⟨hn,hl,h1,rfl,rfl⟩
 rotate_right 2
 all_goals
  try
   have kt:=fun w=>q2p w n hn;have t7:((n:Int)==7)=false:=by simp;omega
   have t6:((n:Int)==6)=false:=by simp;omega
   have tg:decide (27<(m:Int))=false:=by simp;omega
   have tl:decide ((m:Int)<24)=true:=by simp;omega
   have hni:(n:Int)<6:=by omega
   first
    |have t1:((n:Int)==1)=true:=(by simp;omega)
    |have t1:((n:Int)==1)=false:=(by simp;omega)
   clear h1
  go_enter func207,ntmps207
  go_wp2_with (first
   |(go_at_call 113;refine HX.out.ck (cH1 _) ?_;clear cH1;intro w2 HX2 c0 c1 c2 c3;have n1:W.heap.size<w2.heap.size:=(by have:=HX2.out.size;omega);have n2:W.heap.size<w2.heap.size+1:=(by omega))
   |((with_reducible refine zH 4 _ rfl rfl (W.heap.size+1) 1 0 ((i:Int)+1) false ?_ ?_);exact⟨rfl,rfl,(HX2.out.next (bwO _)).hd⟩)
   |((with_reducible refine zH 4 _ rfl rfl (W.heap.size+1) 2 0 ((i:Int)+1) false ?_ ?_);exact⟨rfl,rfl,(HX2.out.next (bwO _)).hd⟩)
   |((with_reducible refine zH 4 _ rfl rfl (W.heap.size+1) 0 0 ((i:Int)+1) false ?_ ?_);exact⟨rfl,rfl,(HX2.out.next (bwO _)).hd⟩)
   |((with_reducible refine zH 4 _ rfl rfl (W.heap.size+1) (kdT n) (-1-(m:Int)) ((i:Int)+1) false ?_ ?_);exact⟨rfl,rfl,(HX2.out.next (bwO _)).hd⟩)
   |((with_reducible refine zH 4 _ rfl rfl (W.heap.size+1) (kdT n) m ((i:Int)+1) false ?_ ?_);exact⟨rfl,rfl,(HX2.out.next (bwO _)).hd⟩)
   |((with_reducible refine zF 5 _ rfl rfl (W.heap.size+2) (0,0) ?_ ?_);exact⟨rfl,rfl,sx (by omega) (HX2.out.next (bwO _)).flt⟩))
  refine eoH results207 ((HX2.out.next (bwO _)).fin _ _) rfl rfl rfl ⟨HS.out,((HX2.out.next (bwO _)).fin _ _).2.2⟩
theorem q1B (W:World)(bs:List UInt8)(fm d l:Int)(i:Nat)(lim:Int)(c:UInt8)(hc:bs[i]? = some c)(h1:qyb bs l i=true)(n m k:Nat)(g:Int→Int)(hs:c.toNat / 32=n)(hn:n<6)(hm:c.toNat%32=m)(hl:Lm bs l lim)(hi:InR bs lim (i+1))(hb:bs.length≤200000000)(hg:(n=1∧g=fun x => -1-x)∨(¬n=1∧g=fun x=>x))(hk:(m=24∧k=1)∨(m=25∧k=2)∨(m=26∧k=4)∨(m=27∧k=8))(hS:∀nv ov F,q41 (qd9 bs lim k (i+1) 0) nv ov F→qxM R (.returned (.tuple #[.agg (hdC (kdT n) (g nv) ((i:Int)+1+k) ov),.agg (qqp F)]))):Calls prog 207 #[.agg (inA bs fm d l),.int .i64 i] W fun e W'=>qxM R e∧Below W.heap.size W W':=by
 have hix:=qxH bs i c hc;have hib:=ltL hc;have hc255:=c.toNat_lt;have hq:(c.toNat:Int) / 32=(n:Int):=by omega
 have hr:(c.toNat:Int)%32=(m:Int):=by omega
 have t7:((n:Int)==7)=false:=by simp;omega
 have t6:((n:Int)==6)=false:=by simp;omega
 have kt:=fun w=>q2p w n hn;have hni:(n:Int)<6:=by omega
 have cH1:=qyz fm d h1;have cG:=fun V=>q0N V bs fm d l lim (i+1) k (by omega) hl hi hb;unfold inA at *;obtain⟨nv,ov,F,hbv,hBI⟩:=q0B (qd9 bs lim k (i+1) 0);rw[hbv] at cG;have hnv0:=hBI.1;have hnv1:=hBI.2.1;have hil:=hi.1;have HS:=qaa (hS nv ov F hBI);obtain⟨N,hN⟩:∃N,g nv=N:=⟨_,rfl⟩
 rw[hN] at HS;have hw:(((n:Int)==1)=true∧N = -1-nv)∨(((n:Int)==1)=false∧N=nv):=by
  rcases hg with ⟨h,rfl⟩|⟨h,rfl⟩
  ·exact .inl ⟨by simp;omega,hN.symm⟩
  exact .inr ⟨by simp;omega,hN.symm⟩
 have HX:=qyH W bs fm d l;clear h1 hc hs hm hl hi hbv hBI hS hN hg;rcases hk with ⟨rfl,rfl⟩|⟨rfl,rfl⟩|⟨rfl,rfl⟩|⟨rfl,rfl⟩
 let kk:Int:=1;rotate_left
 let kk:Int:=2;rotate_left
 let kk:Int:=4;rotate_left
 let kk:Int:=8;rotate_left
 all_goals
  have hkk:0≤kk∧kk≤8:=of_decide_eq_true rfl;rcases hw with ⟨t1,rfl⟩|⟨t1,hN⟩
 all_goals
  go_enter func207,ntmps207
  go_wp2_with (first
   |(go_at_call 113;refine HX.out.ck (cH1 _) ?_;clear cH1;intro w2 HX2 c0 c1 c2 c3;have n1:W.heap.size<w2.heap.size:=(by have:=HX2.out.size;omega);have n2:W.heap.size<w2.heap.size+1:=(by omega))
   |(go_at_call 231;refine(cG _).mono ?_;clear cG c0 c1 c2 c3;rintro e w3 ⟨rfl,hB3⟩;have HX3:Hid (qzT W (inA bs fm d l) w3):=((HX2.out.next (bwO _)).next (bwO _)).next hB3)
   |((with_reducible refine zF 13 95 rfl rfl (w3.heap.size) F ?_ ?_);exact⟨rfl,rfl,qac w3 _⟩;refine nmd ?_;intro V4 EV4;have HX4:Hid (qzT W (inA bs fm d l) V4):=EV4▸HX3.out.next (qxR _ _);have HF4:Hid (V4.heap[w3.heap.size]? = some (.cells (qqp F) 95)):=EV4▸setRow_heap _ _ _ _ _ _ (qac _ _);have HLT:Hid (W.heap.size+3≤w3.heap.size):=HX3.out.size;clear EV4;generalize w3.heap.size=M at *))
  first
   |subst hN
   |generalize -1-nv=N at *
  refine rgn (S:=fun Z=>Z.heap[M]? = some (.cells (qqp F) 95)) (HF4.out) (by kernel_rfl) ?_;intro hS;refine tk 8 108 (.agg (qqp F)) rfl (by kernel_rfl) iQ3 (fun Z hZ=>yF 13 hZ rfl rfl) hS ?_;refine tkk 0 100 (.int .i64 (kdT n)) (by kernel_rfl) iQ3 hS ?_;refine tkk 1 101 (.int .i64 N) (by kernel_rfl) iQ3 hS ?_;refine tkk 2 102 (.int .i64 i) (by kernel_rfl) iQ3 hS ?_;refine tk 3 103 (.int .i64 ((i:Int)+1)) rfl (by kernel_rfl) iQ3 (fun Z hZ => ?y3) hS ?_
  case y3=>(go_simp;exact q3x _ (by omega))
  refine tkk 4 104 (.int .i64 kk) (by kernel_rfl) iQ3 hS ?_;refine tk 5 105 (.int .i64 ((i:Int)+1+kk)) rfl (by kernel_rfl) iQ3 (fun Z hZ => ?y5) hS ?_
  case y5=>(go_simp;exact q3x _ (by omega))
  refine tkk 6 106 (.bool ov) (by kernel_rfl) iQ3 hS ?_;refine tk 7 107 (.agg (hdC (kdT n) N ((i:Int)+1+kk) ov)) rfl (by kernel_rfl) iQ3 (fun Z hZ => ?y7) hS ?_
  case y7=>(unfold hdC;go_simp)
  have hT:=(setRow_other _ (W.heap.size+1) M (hdC (kdT n) N ((i:Int)+1+kk) ov) (by have:=HLT.out;omega)).trans hS;refine sH 9 4 107 (W.heap.size+1) (kdT n) N ((i:Int)+1+kk) ov (by kernel_rfl) (HX4.out.drew.hd) hT ?_;refine sF 10 5 108 (W.heap.size+2) F (by kernel_rfl) (sx (by omega) HX4.out.drew.flt) (sx (by have:=HLT.out;omega) hT) ?_;refine wpAnyH_done (by kernel_rfl) ?_ _;go_simp;go_wp2;refine eoH results207 (HX4.out.drew.fin _ _) rfl rfl rfl ⟨HS.out,(HX4.out.drew.fin _ _).2.2⟩
def tpF (c:UInt8):Int:=if 128≤c.toNat then (c.toNat:Int)-256 else (c.toNat:Int)
def q2P (R:Except (Int×Int) (Nat×Nat))(c:UInt8)(i k:Nat)(e:Ending):Prop :=
 ∃a n q o F,e=.returned (.tuple #[.agg (hdC a n q o),.agg (qqp F)])∧(∀y p,R=.ok (y,p)→a=3∧n=tpF c*256^(k-1)+y∧q=(i:Int)+1+k∧o=false∧F=(0,0))∧(∀f,R=.error f→F=f)
theorem q2H (hl:Lm bs l lim):∀(k p a:Nat) (f:Int×Int),InR bs lim p→qd9 bs lim k p a=.error f→∃p':Nat,f.2=(p':Int)∧qr0 bs l p' f.1=f∧¬f.1=0
 |0,p,a,f,_,h=>by rw[qd9] at h;cases h
 |k+1,p,a,f,hi,h=>by
  rw[qd9] at h
  cases hc:bs[p]? with
  |none =>
   rw[hc] at h;injection h with h;subst h;exact⟨p,rfl,qxY hi.1 hc 9,by simp⟩
  |some c =>
   rw[hc] at h;simp only[] at h;by_cases hp:(p:Int)=lim
   ·rw[if_pos hp] at h;injection h with h;subst h;exact⟨p,rfl,qxW hl hc hp 8,by simp⟩
   rw[if_neg hp] at h;exact q2H hl k (p+1) _ f (qxJ hi hc hp) h
theorem qzC (bs:List UInt8)(lim:Int):∀(k p a x q:Nat),qd9 bs lim k p a=.ok (x,q)→x<(a+1)*256^k
 |0,p,a,x,q,h=>by
  rw[qd9] at h;injection h with h;injection h with h1 h2;subst h1;simp
 |k+1,p,a,x,q,h=>by
  rw[qd9] at h
  cases hc:bs[p]? with
  |none=>rw[hc] at h;cases h
  |some c =>
   rw[hc] at h;simp only[] at h;by_cases hp:(p:Int)=lim
   ·rw[if_pos hp] at h;cases h
   rw[if_neg hp] at h;have h1:=qzC bs lim k (p+1) (a*256+c.toNat) x q h;have h2:=c.toNat_lt;have h3:(a*256+c.toNat+1)*256^k≤((a+1)*256)*256^k:=Nat.mul_le_mul_right _ (by omega);rw[Nat.pow_succ,Nat.mul_comm (256^k) 256,←Nat.mul_assoc];omega
theorem q36 (c:UInt8):-128≤tpF c∧tpF c≤127:=by
 have:=c.toNat_lt;unfold tpF;split<;>omega
theorem q5o (c:UInt8)(j:Nat)(hj:j≤7):-9223372036854775808≤tpF c*256^j∧tpF c*256^j+256^j≤9223372036854775808:=by
 obtain⟨h1,h2⟩:=q36 c;have hj':j=0∨j=1∨j=2∨j=3∨j=4∨j=5∨j=6∨j=7:=by omega
 rcases hj' with rfl|rfl|rfl|rfl|rfl|rfl|rfl|rfl<;>simp<;>omega
theorem q0n (W:World)(bs:List UInt8)(fm d l lim:Int)(i:Nat)(k:Nat)(hk0:1≤k)(hk:k≤8)(c:UInt8)(hl:Lm bs l lim)(hb:bs.length≤200000000)(hi2:i+1<bs.length)(hi:InR bs lim (i+2))(f:Int×Int)(hR:qd9 bs lim (k-1) (i+2) 0=.error f):Calls prog 233 #[.agg (inA bs fm d l),.int .i64 i,.int .i64 k] W fun e W'=>q2P (qd9 bs lim (k-1) (i+2) 0) c i k e∧Below W.heap.size W W':=by
 have cG:∀V,Calls prog 231 #[.agg #[.string ⟨bs.toArray⟩,.int .i64 fm,.int .i64 d,.int .i64 l],.int .i64 ((i:Int)+2),.int .i64 ((k:Int)-1)] V fun e W'=>e=.returned (.tuple #[.int .i64 0,.bool false,.agg (qqp f)])∧Below V.heap.size V W':=fun V=>by
  have h:=q0N V bs fm d l lim (i+2) (k-1) (by omega) hl hi hb;rw[hR,show((k-1:Nat):Int)=(k:Int)-1 by omega] at h;unfold q5d at h;simp only[] at h;exact h
 obtain⟨p',hf2,hbd,hf0⟩:=q2H hl (k-1) (i+2) 0 f hi hR;have hne:(f.1==0)=false:=by simpa using hf0
 have cB1:∀V,Calls prog 71 #[.agg #[.string ⟨bs.toArray⟩,.int .i64 fm,.int .i64 d,.int .i64 l],.int .i64 f.2,.int .i64 f.1] V fun e W'=>e=.returned (.agg (qqp f))∧Below V.heap.size V W':=fun V=>by
  have h:=qyv V bs fm d l p' f.1;rw[hbd,←hf2] at h;exact h
 have HX:=qyH W bs fm d l;have HR:Hid (qd9 bs lim (k-1) (i+2) 0=.error f):=hR;clear hl hi hR hf2 hbd hf0;unfold inA;go_enter func233,ntmps233
 go_wp2_with (first
  |(go_at_call 231;refine ck (cG _) HX.out.next ?_;clear cG;intro w3 HX3)
  |(go_at_call 71;refine HX4.out.ck (cB1 _) ?_;clear cB1 c0 c1 c2 c3;intro w5 HX5 c0 c1 c2 c3)
  |((with_reducible refine zF 10 22 rfl rfl (w3.heap.size) (f) ?_ ?_);exact⟨rfl,rfl,qac w3 _⟩;refine nmd ?_;intro V4 EV4;have HX4:Hid (qzT W (inA bs fm d l) V4):=EV4▸HX3.out.next (qxR _ _);have HF4:Hid (V4.heap[w3.heap.size]? = some (.cells (qqp (f)) 95)):=EV4▸setRow_heap _ _ _ _ _ _ (qac _ _);have HLT:Hid (W.heap.size+3≤w3.heap.size):=HX3.out.size;clear EV4;generalize w3.heap.size=M at *;have u0:V4.cell? ⟨M,0,none⟩=some (.int .i64 (f.1)):=qab HF4.out 0;have u1:V4.cell? ⟨M,1,none⟩=some (.int .i64 (f.2)):=qab HF4.out 1;obtain⟨c0,c1,c2,c3⟩:=qyf HX4.out.box)
  |((with_reducible refine zH 6 26 rfl rfl (W.heap.size+1) 0 0 0 false ?_ ?_);exact⟨rfl,rfl,HX5.out.hd⟩)
  |((with_reducible refine zF 7 32 rfl rfl (W.heap.size+2) (f) ?_ ?_);exact⟨rfl,rfl,sx (by omega) HX5.out.flt⟩))
 have hf:=HX5.out.fin (hdC 0 0 0 false) (f);refine eoH results233 hf rfl rfl rfl ⟨?_,hf.2.2⟩;exact⟨0,0,0,false,f,rfl,(fun y p e=>by rw[HR.out] at e;cases e),(fun f' e=>by rw[HR.out] at e;injection e)⟩
theorem q0E (W:World)(bs:List UInt8)(fm d l lim:Int)(i:Nat)(k:Nat)(hk0:1≤k)(hk:k≤8)(c:UInt8)(hl:Lm bs l lim)(hb:bs.length≤200000000)(hi2:i+1<bs.length)(hi:InR bs lim (i+2))(hc:bs[i+1]? = some c)(y p:Nat)(hR:qd9 bs lim (k-1) (i+2) 0=.ok (y,p)):Calls prog 233 #[.agg (inA bs fm d l),.int .i64 i,.int .i64 k] W fun e W'=>q2P (qd9 bs lim (k-1) (i+2) 0) c i k e∧Below W.heap.size W W':=by
 have hix:∀V,(Instr.index 9 (.string ⟨bs.toArray⟩) (.int .i64 ((i:Int)+1))).run prog V=.ok (.int .u8 c.toNat) V:=fun V=>qxH bs (i+1) c hc V;have hc255:=c.toNat_lt;have ht:(decide (128≤(c.toNat:Int))=true∧Hid (tpF c=(c.toNat:Int)-256))∨(decide (128≤(c.toNat:Int))=false∧Hid (tpF c=(c.toNat:Int))):=by
  by_cases h:128≤c.toNat
  ·exact .inl ⟨by simp;omega,if_pos h⟩
  exact .inr ⟨by simp;omega,if_neg h⟩
 have cG:∀V,Calls prog 231 #[.agg #[.string ⟨bs.toArray⟩,.int .i64 fm,.int .i64 d,.int .i64 l],.int .i64 ((i:Int)+2),.int .i64 ((k:Int)-1)] V fun e W'=>e=.returned (.tuple #[.int .i64 y,.bool false,.agg (qqp (0,0))])∧Below V.heap.size V W':=fun V=>by
  have h:=q0N V bs fm d l lim (i+2) (k-1) (by omega) hl hi hb;rw[hR,show((k-1:Nat):Int)=(k:Int)-1 by omega] at h;unfold q5d at h;simp only[] at h;rw[if_neg (by have:=qzC bs lim _ _ _ _ _ hR;have:(0+1)*256^(k-1)≤(0+1)*256^7:=Nat.mul_le_mul_left _ (Nat.pow_le_pow_right (by decide) (by omega));omega)] at h;exact h
 have HX:=qyH W bs fm d l;have HR:Hid (qd9 bs lim (k-1) (i+2) 0=.ok (y,p)):=hR;have HY:Hid ((y:Int)<256^(k-1)):=by
  show _<_;have:=qzC bs lim _ _ _ _ _ hR;rw[Nat.zero_add,Nat.one_mul] at this
  exact_mod_cast this
 clear hl hi hR hc;unfold inA;rcases ht with ⟨t128,HT⟩|⟨t128,HT⟩
 all_goals
  go_enter func233,ntmps233
  go_wp2_with (first
   |(go_at_call 231;refine ck (cG _) HX.out.next ?_;clear cG;intro w3 HX3)
   |((with_reducible refine zF 10 22 rfl rfl (w3.heap.size) (0,0) ?_ ?_);exact⟨rfl,rfl,qac w3 _⟩;refine nmd ?_;intro V4 EV4;have HX4:Hid (qzT W (inA bs fm d l) V4):=EV4▸HX3.out.next (qxR _ _);have HF4:Hid (V4.heap[w3.heap.size]? = some (.cells (qqp (0,0)) 95)):=EV4▸setRow_heap _ _ _ _ _ _ (qac _ _);have HLT:Hid (W.heap.size+3≤w3.heap.size):=HX3.out.size;clear EV4;generalize w3.heap.size=M at *;have u0:V4.cell? ⟨M,0,none⟩=some (.int .i64 (0)):=qab HF4.out 0;have u1:V4.cell? ⟨M,1,none⟩=some (.int .i64 (0)):=qab HF4.out 1;obtain⟨c0,c1,c2,c3⟩:=qyf HX4.out.box))
  go_loopg [11,12] (k-1) (fun g zt zj wr=>wr=V4∧∃(j:Nat) (tz:Int),zt=.int .i64 tz∧zj=.int .i64 ((j:Int)+1)∧Hid (j+g=k-1)∧Hid (tz=tpF c*256^j))
  case atStart=>exact⟨rfl,0,_,rfl,rfl,by show _=_;omega,by show _=_;rw[HT.out];simp⟩
  case round =>
   clear c0 c1 c2 c3 u0 u1;obtain⟨rfl,j,tz,rfl,rfl,hg,HZ⟩:=hrel
   cases gk with
   |zero =>
    have hj:j=k-1:=by have:=hg.out;omega
    have hlt:¬(j:Int)+1<(k:Int):=by omega
    have HB:=q5o c (k-1) (by omega);have hz : -9223372036854775808≤tz+(y:Int)∧tz+(y:Int)≤9223372036854775807:=by
     have h1:=HZ.out;have h2:=HY.out;rw[hj] at h1;rw[h1];omega
    have hz1:=hz.1;have hz2:=hz.2;have HZ2:Hid (tz=tpF c*256^(k-1)):=by show _=_;rw[HZ.out,hj]
    clear HZ HB hg hj hz HT
    go_wp2_with (first
     |((with_reducible refine zH 6 57 rfl rfl (W.heap.size+1) 3 (tz+y) ((i:Int)+1+k) false ?_ ?_);exact⟨rfl,rfl,HX4.out.hd⟩)
     |((with_reducible refine zF 7 58 rfl rfl (W.heap.size+2) (0,0) ?_ ?_);exact⟨rfl,rfl,sx (by omega) HX4.out.flt⟩))
    have hf:=HX4.out.fin (hdC 3 (tz+y) ((i:Int)+1+k) false) (0,0);refine eoH results233 hf rfl rfl rfl ⟨?_,hf.2.2⟩;exact⟨_,_,_,_,_,rfl,(fun y' p' e=>by rw[HR.out] at e;injection e with e;injection e with e1 e2;subst e1;exact⟨rfl,by rw[HZ2.out],rfl,rfl,rfl⟩),(fun f' e=>by rw[HR.out] at e;cases e)⟩
   |succ g =>
    have hlt:(j:Int)+1<(k:Int):=by have:=hg.out;omega
    have HB:=q5o c (j+1) (by have:=hg.out;omega);have hpw:(0:Int)≤256^(j+1):=Int.pow_nonneg (by decide);have hzz:tz*256=tpF c*256^(j+1):=by rw[HZ.out,Int.pow_succ,Int.mul_assoc]
    have hz1 : -9223372036854775808≤tz*256:=by rw[hzz];exact HB.1
    have hz2:tz*256≤9223372036854775807:=by
     have hp1:(1:Int)≤256^(j+1):=Int.pow_pos (by decide);rw[hzz];have:=HB.2;omega
    have HN:Hid (tz*256=tpF c*256^(j+1)):=hzz;have hjk:(j:Int)≤7:=by have:=hg.out;omega
    clear hzz HB hpw HZ HT;go_wp2;go_roundg g
    case measure=>omega
    case rel=>exact⟨rfl,j+1,tz*256,rfl,by go_num,by show _=_;have:=hg.out;omega,HN⟩
theorem q0m (W:World)(bs:List UInt8)(fm d l lim:Int)(i:Nat)(k:Nat)(hk0:1≤k)(hk:k≤8)(c:UInt8)(hl:Lm bs l lim)(hb:bs.length≤200000000)(hi:InR bs lim (i+2))(hc:bs[i+1]? = some c):Calls prog 233 #[.agg (inA bs fm d l),.int .i64 i,.int .i64 k] W fun e W'=>q2P (qd9 bs lim (k-1) (i+2) 0) c i k e∧Below W.heap.size W W':=by
 have h2:=ltL hc
 cases hR:qd9 bs lim (k-1) (i+2) 0 with
 |error f=>have h:=q0n W bs fm d l lim i k hk0 hk c hl hb h2 hi f hR;rw[hR] at h;exact h
 |ok x =>
  obtain⟨y,p⟩:=x;have h:=q0E W bs fm d l lim i k hk0 hk c hl hb h2 hi hc y p hR;rw[hR] at h;exact h
theorem q2j (bs:List UInt8)(p a j:Nat):qye bs p a++qye bs (p+a) j=qye bs p (a+j):=by
 unfold qye;rw[List.take_add,List.drop_drop]
theorem qyS (bs:List UInt8)(p:Nat):qye bs p 0=[]:=by simp[qye]
theorem q0R (hm:0<m)(hc:bs[k]? = some c)(hp:¬(k:Int)=lim):qhb bs lim m k acc=qhb bs lim (m-1) (k+1) (acc++[c]):=by
 obtain⟨g,rfl⟩:∃g,m=g+1:=⟨m-1,by omega⟩
 conv=>lhs;rw[qhb,hc]
 simp only[];rw[if_neg hp];rfl
theorem q31 (hm:0<m)(hi:InR bs lim k)(hl:Lm bs l lim)(hc:bs[k]? = none∨∃c,bs[k]? = some c∧(k:Int)=lim):qhb bs lim m k acc=.error (qr0 bs l k 9)∧qyb bs l k=false:=by
 obtain⟨g,rfl⟩:∃g,m=g+1:=⟨m-1,by omega⟩
 rw[qhb];rcases hc with hc|⟨c,hc,hp⟩
 ·rw[hc,qxY hi.1 hc];exact⟨rfl,qxS hc⟩
 rw[hc,qxW hl hc hp];simp only[];rw[if_pos hp];exact⟨rfl,qyg hl hc hp⟩
theorem q3A {wh:Nat}(hm:0<m)(hi:InR bs lim k)(hl:Lm bs l lim)(hc:bs[k]? = none∨∃c,bs[k]? = some c∧(k:Int)=lim):qfg bs lim m k acc wh=.error (qr0 bs l k 9)∧qyb bs l k=false:=by
 obtain⟨g,rfl⟩:∃g,m=g+1:=⟨m-1,by omega⟩
 rw[qfg];rcases hc with hc|⟨c,hc,hp⟩
 ·rw[hc,qxY hi.1 hc];exact⟨rfl,qxS hc⟩
 rw[hc,qxW hl hc hp];simp only[];rw[if_pos hp];exact⟨rfl,qyg hl hc hp⟩
theorem qyF (k:Nat):(bs[k]? = none∨∃c,bs[k]? = some c∧(k:Int)=lim)∨∃c,bs[k]? = some c∧¬(k:Int)=lim:=by
 cases hc:bs[k]? with
 |none=>exact .inl (.inl rfl)
 |some c =>
  by_cases hp:(k:Int)=lim
  ·exact .inl (.inr ⟨c,rfl,hp⟩)
  exact .inr ⟨c,rfl,hp⟩
theorem q14 (a:Int)(h:9223372036854775807<a)(h2:a≤10000000000000000000):IntKind.i64.wrap a<0:=by
 rw[IntKind.wrap_i64];omega
theorem q6L (W:World)(bs:List UInt8)(fm d l lim:Int)(i x:Nat)(hl:Lm bs l lim)(hi:InR bs lim i)(hb:bs.length≤200000000)(hx:x≤bs.length):Calls prog 176 #[.agg (inA bs fm d l),.int .i64 i,.int .i64 (x:Int),.bool false] W fun e W'=>q2a (qhb bs lim x i []) e∧Below W.heap.size W W':=by
 obtain⟨R,HR⟩:∃R,Hid (qhb bs lim x i []=R):=⟨_,show _=_ from rfl⟩
 rw[HR.out];have hsz:=qym bs;have hil:=hi.1;have HL:=qaa hl;have HI:=qaa hi;have cH:=qzv bs fm d l;have cB:=qzy bs fm d l;have HX:=q00 W bs fm d l;unfold inA;go_enter func176,ntmps176;go_wp2
 go_loopg [11] (bs.length+1-i) (fun g z wr=>∃k:Nat,z=.int .i64 k∧Hid (bs.length+1≤k+g)∧Hid (RIn W (inA bs fm d l) (W.heap.size+1) wr)∧Hid (InR bs lim k)∧Hid (i≤k∧k-i≤x)∧Hid (qhb bs lim (x-(k-i)) (k) (qye bs i (k-i))=R))
 case atStart=>exact⟨i,rfl,by show _≤_;omega,HX,HI,⟨Nat.le_refl _,by omega⟩,by show _=_;rw[Nat.sub_self,qyS,Nat.sub_zero];exact HR.out⟩
 case round =>
  obtain⟨k,rfl,hg,HX,HI,HK,HR⟩:=hrel;have hkl:=HI.out.1;obtain⟨c0,c1,c2,c3⟩:=qyf HX.out.box;by_cases hkx:k-i=x
  ·have HE:Hid (R=.ok (qye bs i x,k)):=by
    show _=_;have h:=HR.out;rw[hkx,Nat.sub_self] at h;rw[←h];rfl
   have hik:=HK.out.1;have hlt:¬(k:Int)<(i:Int)+(x:Int):=by omega
   have hng:¬(bs.length:Int)<(x:Int):=by omega
   have HEX:Hid ((⟨bs.toArray⟩:ByteArray).extract (i:Int).toNat (k:Int).toNat=⟨(qye bs i x).toArray⟩):=by
    show _=_;rw[show(i:Int).toNat=i by omega,show(k:Int).toNat=i+x by omega];exact q1P bs i x
   have hik2:(i:Int)≤(k:Int):=by omega
   have hkl2:(k:Int)≤(bs.length:Int):=by omega
   go_wp2_with (first
    |((with_reducible refine stF 10 95 rfl rfl (W.heap.size+1) (0,0) ?_ ?_ ?_ ?_);exact rfl;exact rfl;exact HX.out.flt))
   have hf:=qxK HX.out bwR (0,0);refine qzl results176 hf (.string ((⟨bs.toArray⟩:ByteArray).extract (i:Int).toNat (k:Int).toNat)) (.int .i64 k) rfl rfl rfl rfl ⟨?_,hf.2⟩;rw[HE.out,HEX.out];rfl
  have hkx2:k-i<x:=by have:=HK.out.2;omega
  have hlt:(k:Int)<(i:Int)+(x:Int):=by omega
  have hle:(x:Int)≤(bs.length:Int):=by omega
  have cH1:=fun V=>cH V k;rcases qyF (bs:=bs) (lim:=lim) k with hno|⟨ch,hc,hp⟩
  ·obtain⟨h1,h2⟩:=q31 (m:=x-(k-i)) (acc:=qye bs i (k-i)) (by omega) HI.out HL.out hno;have HE:=qaa (HR.out.symm.trans h1);rw[h2] at cH1;have cB1:=fun V=>cB V k 9;generalize qr0 bs l k 9=xx at *
   go_wp2_with (first
    |(go_at_call 113;refine ck4 (cH1 _) HX.out.next (fun _ h=>h.box) ?_;intro w2 HX2 c0 c1 c2 c3)
    |(go_at_call 71;refine ck4 (cB1 _) HX2.out.next (fun _ h=>h.box) ?_;intro w3 HX3 c0 c1 c2 c3)
    |((with_reducible refine stF 10 35 rfl rfl (W.heap.size+1) (xx) ?_ ?_ ?_ ?_);exact rfl;exact rfl;exact HX3.out.flt))
   have hf:=qxK HX3.out bwR (xx);refine qzl results176 hf (.string ⟨#[]⟩) (.int .i64 0) rfl rfl rfl rfl ⟨?_,hf.2⟩;rw[HE.out];rfl
  have hkb:=ltL hc;have hh:=qxO HL.out HI.out hc hp;rw[hh] at cH1;have HN:Hid (qhb bs lim (x-(k+1-i)) (k+1) (qye bs i (k+1-i))=R):=by
   show _=_;have hik:=HK.out.1;rw[show k+1-i=(k-i)+1 by omega,qyW (p:=i) (k:=k-i) (c:=ch) (by rw[show i+(k-i)=k by omega];exact hc),show x-((k-i)+1)=x-(k-i)-1 by omega,←q0R (by omega) hc hp];exact HR.out
  have HNI:=show Hid (InR bs lim (k+1)) from qxJ HI.out hc hp
  go_wp2_with (first
   |(go_at_call 113;refine ck4 (cH1 _) HX.out.next (fun _ h=>h.box) ?_;intro w2 HX2 c0 c1 c2 c3))
  go_roundg (gk-1)
  case measure=>have:=hg.out;omega
  case rel=>exact⟨k+1,by go_num,by show _≤_;have:=hg.out;omega,HX2,HNI,⟨by have:=HK.out.1;omega,by have:=HK.out.1;omega⟩,HN⟩
theorem q6J (W:World)(bs:List UInt8)(fm d l lim:Int)(i x:Nat)(hl:Lm bs l lim)(hi:InR bs lim i)(_hb:bs.length≤200000000)(n:Int)(hx:bs.length<x)(hn1:(bs.length:Int)<n)(hn2:(i:Int)+n≤9223372036854775807):Calls prog 176 #[.agg (inA bs fm d l),.int .i64 i,.int .i64 n,.bool false] W fun e W'=>q2a (qhb bs lim x i []) e∧Below W.heap.size W W':=by
 obtain⟨R,HR⟩:∃R,Hid (qhb bs lim x i []=R):=⟨_,show _=_ from rfl⟩
 rw[HR.out];have hsz:=qym bs;have hil:=hi.1;have HL:=qaa hl;have HI:=qaa hi;have cH:=qzv bs fm d l;have cB:=qzy bs fm d l;have HX:=q00 W bs fm d l;unfold inA;go_enter func176,ntmps176;go_wp2
 go_loopg [11] (bs.length+1-i) (fun g z wr=>∃k:Nat,z=.int .i64 k∧Hid (bs.length+1≤k+g)∧Hid (RIn W (inA bs fm d l) (W.heap.size+1) wr)∧Hid (InR bs lim k)∧Hid (i≤k∧k-i≤x)∧Hid (qhb bs lim (x-(k-i)) (k) (qye bs i (k-i))=R))
 case atStart=>exact⟨i,rfl,by show _≤_;omega,HX,HI,⟨Nat.le_refl _,by omega⟩,by show _=_;rw[Nat.sub_self,qyS,Nat.sub_zero];exact HR.out⟩
 case round =>
  obtain⟨k,rfl,hg,HX,HI,HK,HR⟩:=hrel;have hkl:=HI.out.1;obtain⟨c0,c1,c2,c3⟩:=qyf HX.out.box;have hkx2:k-i<x:=by omega
  have hlt:(k:Int)<(i:Int)+n:=by omega
  have hni : -9223372036854775808≤(i:Int)+n:=by omega
  have hnle:¬n≤(bs.length:Int):=by omega
  have cH1:=fun V=>cH V k;rcases qyF (bs:=bs) (lim:=lim) k with hno|⟨ch,hc,hp⟩
  ·obtain⟨h1,h2⟩:=q31 (m:=x-(k-i)) (acc:=qye bs i (k-i)) (by omega) HI.out HL.out hno;have HE:=qaa (HR.out.symm.trans h1);rw[h2] at cH1;have cB1:=fun V=>cB V k 9;generalize qr0 bs l k 9=xx at *
   go_wp2_with (first
    |(go_at_call 113;refine ck4 (cH1 _) HX.out.next (fun _ h=>h.box) ?_;intro w2 HX2 c0 c1 c2 c3)
    |(go_at_call 71;refine ck4 (cB1 _) HX2.out.next (fun _ h=>h.box) ?_;intro w3 HX3 c0 c1 c2 c3)
    |((with_reducible refine stF 10 35 rfl rfl (W.heap.size+1) (xx) ?_ ?_ ?_ ?_);exact rfl;exact rfl;exact HX3.out.flt))
   have hf:=qxK HX3.out bwR (xx);refine qzl results176 hf (.string ⟨#[]⟩) (.int .i64 0) rfl rfl rfl rfl ⟨?_,hf.2⟩;rw[HE.out];rfl
  have hkb:=ltL hc;have hh:=qxO HL.out HI.out hc hp;rw[hh] at cH1;have HN:Hid (qhb bs lim (x-(k+1-i)) (k+1) (qye bs i (k+1-i))=R):=by
   show _=_;have hik:=HK.out.1;rw[show k+1-i=(k-i)+1 by omega,qyW (p:=i) (k:=k-i) (c:=ch) (by rw[show i+(k-i)=k by omega];exact hc),show x-((k-i)+1)=x-(k-i)-1 by omega,←q0R (by omega) hc hp];exact HR.out
  have HNI:=show Hid (InR bs lim (k+1)) from qxJ HI.out hc hp
  go_wp2_with (first
   |(go_at_call 113;refine ck4 (cH1 _) HX.out.next (fun _ h=>h.box) ?_;intro w2 HX2 c0 c1 c2 c3))
  go_roundg (gk-1)
  case measure=>have:=hg.out;omega
  case rel=>exact⟨k+1,by go_num,by show _≤_;have:=hg.out;omega,HX2,HNI,⟨by have:=HK.out.1;omega,by have:=HK.out.1;omega⟩,HN⟩
theorem q6C (W:World)(bs:List UInt8)(fm d l lim:Int)(i x:Nat)(hl:Lm bs l lim)(hi:InR bs lim i)(hb:bs.length≤200000000)(n:Int)(hx:bs.length<x)(hn1:(bs.length:Int)<n)(hn2:n≤9223372036854775807)(hn3:9223372036854775807<(i:Int)+n):Calls prog 176 #[.agg (inA bs fm d l),.int .i64 i,.int .i64 n,.bool false] W fun e W'=>q2a (qhb bs lim x i []) e∧Below W.heap.size W W':=by
 obtain⟨R,HR⟩:∃R,Hid (qhb bs lim x i []=R):=⟨_,show _=_ from rfl⟩
 rw[HR.out];have hsz:=qym bs;have hil:=hi.1;have HL:=qaa hl;have HI:=qaa hi;have cH:=qzv bs fm d l;have cB:=qzy bs fm d l;obtain⟨wv,hwv⟩:∃wv,IntKind.i64.wrap ((i:Int)+n)=wv:=⟨_,rfl⟩
 have hneg:wv<0:=by rw[←hwv];exact q14 _ hn3 (by omega)
 have HX:=q00 W bs fm d l;unfold inA;go_enter func176,ntmps176;go_wp2
 go_loopg [11] (bs.length+1-i) (fun g z wr=>∃k:Nat,z=.int .i64 k∧Hid (bs.length+1≤k+g)∧Hid (RIn W (inA bs fm d l) (W.heap.size+1) wr)∧Hid (InR bs lim k)∧Hid (i≤k∧k-i≤x)∧Hid (qhb bs lim (x-(k-i)) (k) (qye bs i (k-i))=R))
 case atStart=>exact⟨i,rfl,by show _≤_;omega,HX,HI,⟨Nat.le_refl _,by omega⟩,by show _=_;rw[Nat.sub_self,qyS,Nat.sub_zero];exact HR.out⟩
 case round =>
  obtain⟨k,rfl,hg,HX,HI,HK,HR⟩:=hrel;have hkl:=HI.out.1;obtain⟨c0,c1,c2,c3⟩:=qyf HX.out.box;have hkx2:k-i<x:=by omega
  have hlt:¬(k:Int)<wv:=by omega
  have hnle:¬n≤(bs.length:Int):=by omega
  have cH1:=fun V=>cH V k;rcases qyF (bs:=bs) (lim:=lim) k with hno|⟨ch,hc,hp⟩
  ·obtain⟨h1,h2⟩:=q31 (m:=x-(k-i)) (acc:=qye bs i (k-i)) (by omega) HI.out HL.out hno;have HE:=qaa (HR.out.symm.trans h1);rw[h2] at cH1;have cB1:=fun V=>cB V k 9;generalize qr0 bs l k 9=xx at *
   go_wp2_with (first
    |(go_at_call 113;refine ck4 (cH1 _) HX.out.next (fun _ h=>h.box) ?_;intro w2 HX2 c0 c1 c2 c3)
    |(go_at_call 71;refine ck4 (cB1 _) HX2.out.next (fun _ h=>h.box) ?_;intro w3 HX3 c0 c1 c2 c3)
    |((with_reducible refine stF 10 35 rfl rfl (W.heap.size+1) (xx) ?_ ?_ ?_ ?_);exact rfl;exact rfl;exact HX3.out.flt))
   have hf:=qxK HX3.out bwR (xx);refine qzl results176 hf (.string ⟨#[]⟩) (.int .i64 0) rfl rfl rfl rfl ⟨?_,hf.2⟩;rw[HE.out];rfl
  have hkb:=ltL hc;have hh:=qxO HL.out HI.out hc hp;rw[hh] at cH1;have HN:Hid (qhb bs lim (x-(k+1-i)) (k+1) (qye bs i (k+1-i))=R):=by
   show _=_;have hik:=HK.out.1;rw[show k+1-i=(k-i)+1 by omega,qyW (p:=i) (k:=k-i) (c:=ch) (by rw[show i+(k-i)=k by omega];exact hc),show x-((k-i)+1)=x-(k-i)-1 by omega,←q0R (by omega) hc hp];exact HR.out
  have HNI:=show Hid (InR bs lim (k+1)) from qxJ HI.out hc hp
  go_wp2_with (first
   |(go_at_call 113;refine ck4 (cH1 _) HX.out.next (fun _ h=>h.box) ?_;intro w2 HX2 c0 c1 c2 c3))
  go_roundg (gk-1)
  case measure=>have:=hg.out;omega
  case rel=>exact⟨k+1,by go_num,by show _≤_;have:=hg.out;omega,HX2,HNI,⟨by have:=HK.out.1;omega,by have:=HK.out.1;omega⟩,HN⟩
end
end Go.Proofs.YtllcbnfmihfaaaaGreatDoor
