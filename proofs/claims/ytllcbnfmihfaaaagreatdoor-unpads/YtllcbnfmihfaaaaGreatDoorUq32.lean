import Derived.Test.YtllcbnfmihfaaaaGreatDoorUq28
import Derived.Test.YtllcbnfmihfaaaaGreatDoorUq27
import Derived.Test.YtllcbnfmihfaaaaGreatDoorUq26
set_option maxRecDepth 100000
set_option maxHeartbeats 8000000
namespace Go.Proofs.YtllcbnfmihfaaaaGreatDoor
open Go.Proofs.Tryz
section
open Go.RowKit Go.Lib
theorem qhX {P:Program}{fn:Func}{p q:Tmp}{ty ty2:TypeId}(h:fn.results=#[.cell p ty,.cell q ty2])(tmps:Array Value)(w:World)(g g2:Nat)(t t2:TypeId)(cs cs2:Array Value)(fr fr2:Nat×Nat)(d d2:TypeDesc)(hp:tmps.getD p undef=.pointer (some ⟨g,0,none⟩))(hg:w.heap[g]? = some (.cells cs t fr))(hu:P.underlying ty=some d)(hd:(match d with|.struct _|.array _ _=>true|_=>false)=true)(hi:(P.info? ty).map (·.size)=some cs.size)(hp2:tmps.getD q undef=.pointer (some ⟨g2,0,none⟩))(hg2:w.heap[g2]? = some (.cells cs2 t2 fr2))(hu2:P.underlying ty2=some d2)(hd2:(match d2 with|.struct _|.array _ _=>true|_=>false)=true)(hi2:(P.info? ty2).map (·.size)=some cs2.size):(results fn tmps).run P w=.ok (.tuple #[.agg cs,.agg cs2]) w:=by
 have e:(results fn tmps).run P w=((asAddr (tmps.getD p undef)).run P w).andThen fun a w₁=>((loadVar ty a).run P w₁).andThen fun v w₂=>((asAddr (tmps.getD q undef)).run P w₂).andThen fun a2 w₃=>((loadVar ty2 a2).run P w₃).andThen fun v2 w₄=>.ok (.tuple #[v,v2]) w₄:=by
  simp only[results,h]
  simp[Sem.run_bind,Result.andThen]
 rw[e,hp,hp2]
 simp only[asAddr,Sem.run_pure,Result.andThen_ok,run_loadVar_row w g t ty cs fr d hg hu hd hi,run_loadVar_row w g2 t2 ty2 cs2 fr2 d2 hg2 hu2 hd2 hi2]
def hdC (k n q:Int)(o:Bool):Array Value:=#[.int .i64 k,.int .i64 n,.int .i64 q,.bool o]
theorem qou:(prog.info? 294).map (·.size)=some 4:=by kernel_rfl
theorem qgA (k n q:Int)(o:Bool):(prog.info? 294).map (·.size)=some (hdC k n q o).size:=qou
theorem qi9 (k n q:Int)(o:Bool):(hdC 0 0 0 false).size=(hdC k n q o).size:=rfl
theorem qlg (k n q:Int)(o:Bool):(hdC k n q o).all (·.oneCell')=true:=by simp[hdC,Value.oneCell']
theorem stH {ops:Array Oper}{rest:List Oper}{o:Oper}{a:Act}{w:World}{Q:Exit→Act→World→Prop}(x y:Nat)(hgd:o.guard=none)(ho:o.op=.store 294 (.tmp x) (.tmp y))(g:Nat)(k n q:Int)(b:Bool)(hx:a.eval (.tmp x)=.pointer (some ⟨g,0,none⟩))(hy:a.eval (.tmp y)=.agg (hdC k n q b))(hg:w.heap[g]? = some (.cells (hdC 0 0 0 false) 294))(h:wpList prog ops Q rest (a.put o.dst undef) (w.setRow g (hdC k n q b))):wpList prog ops Q (o::rest) a w :=
 wpList_store_row hgd _ _ _ ho g _ hx hy _ _ hg (qgA _ _ _ _) (qi9 _ _ _ _) (qlg _ _ _ _) h
theorem qo4 {fn:Func}{p q:Tmp}{tmps:Array Value}{w:World}{g g2:Nat}{k n z:Int}{b:Bool}{F:Int×Int}(h:fn.results=#[.cell p 294,.cell q 95])(hg:w.heap[g]? = some (.cells (hdC k n z b) 294))(hg2:w.heap[g2]? = some (.cells (qae F) 95))(hp:tmps.getD p undef=.pointer (some ⟨g,0,none⟩))(hp2:tmps.getD q undef=.pointer (some ⟨g2,0,none⟩)):(results fn tmps).run prog w=.ok (.tuple #[.agg (hdC k n z b),.agg (qae F)]) w :=
 qhX h _ _ g g2 _ _ _ _ _ _ _ _ hp hg underlying294 rfl (qgA _ _ _ _) hp2 hg2 underlying95 rfl (qaT _)
theorem sH {ops:Array Oper}{Q:Exit→Act→World→Prop}{md:Region.Mode}{S:World→Prop}{fuel:Nat}{listed:Array Bool}{a:Act}{w:World}(i x y g:Nat)(k n q:Int)(b:Bool)(hk:(Region.ready md ops listed,ops[i]?.map fun o=>(Region.wanted o (yielded ops a.tmps),o.op,o.dst),a.eval (.tmp x),a.eval (.tmp y))=([i],some (true,.store 294 (.tmp x) (.tmp y),none),.pointer (some ⟨g,0,none⟩),.agg (hdC k n q b)))(hg:w.heap[g]? = some (.cells (hdC 0 0 0 false) 294))(hS:S (w.setRow g (hdC k n q b)))(h:wpAnyH prog md ops Q S fuel (listed.setIfInBounds i true) a (w.setRow g (hdC k n q b))):wpAnyH prog md ops Q S (fuel+1) listed a w:=by
 obtain⟨h1,h2⟩:=Prod.mk.inj hk
 obtain⟨h2,h3⟩:=Prod.mk.inj h2
 obtain⟨h3,h4⟩:=Prod.mk.inj h3
 obtain⟨o,ho,h5⟩:=Option.map_eq_some_iff.1 h2
 obtain⟨h5,h6⟩:=Prod.mk.inj h5
 obtain⟨h6,h7⟩:=Prod.mk.inj h6
 exact qee i h1 ho h5 _ _ _ h6 h7 g _ h3 h4 _ _ hg (qgA _ _ _ _) (qi9 _ _ _ _) (qlg _ _ _ _) hS h
theorem eoH {fn:Func}{p q:Tmp}{A:Act}{w:World}{g g2:Nat}{k n z:Int}{b:Bool}{F:Int×Int}{R:Ending→World→Prop}{B:Prop}(h:fn.results=#[.cell p 294,.cell q 95])(hf:w.heap[g]? = some (.cells (hdC k n z b) 294)∧w.heap[g2]? = some (.cells (qae F) 95)∧B)(hp:A.tmps.getD p undef=.pointer (some ⟨g,0,none⟩))(hp2:A.tmps.getD q undef=.pointer (some ⟨g2,0,none⟩))(hd:A.defers=[])(kk:R (.returned (.tuple #[.agg (hdC k n z b),.agg (qae F)])) w):bodyPost prog fn R .ret A w:=bodyPost_ret (qo4 h hf.1 hf.2.1 hp hp2) hd kk
theorem qiV {V:World}{g:Nat}{k n q:Int}{o:Bool}{t:TypeId}{fr:Nat×Nat}(h:V.heap[g]? = some (.cells (hdC k n q o) t fr)):V.cell? ⟨g,0,none⟩=some (.int .i64 k)∧V.cell? ⟨g,1,none⟩=some (.int .i64 n)∧V.cell? ⟨g,2,none⟩=some (.int .i64 q)∧V.cell? ⟨g,3,none⟩=some (.bool o):=⟨qaa h 0,qaa h 1,qaa h 2,qaa h 3⟩
structure qcE (W:World)(A:Array Value)(V:World):Prop where
 box:V.heap[W.heap.size]? = some (.cells A 143)
 hd:V.heap[W.heap.size+1]? = some (.cells (hdC 0 0 0 false) 294)
 flt:V.heap[W.heap.size+2]? = some (.cells (qae (0,0)) 95)
 below:Below W.heap.size W V
theorem qcE.next {W V V':World}{A:Array Value}(h:qcE W A V)(hb:Below V.heap.size V V'):qcE W A V' :=
 ⟨(hb.block _ (ltA h.box)).trans h.box,(hb.block _ (ltA h.hd)).trans h.hd,(hb.block _ (ltA h.flt)).trans h.flt,h.below.trans (hb.mono h.below.size)⟩
theorem qcE.drew {W V:World}{A:Array Value}(h:qcE W A V):qcE W A V.drew:=⟨h.box,h.hd,h.flt,h.below.drew⟩
theorem qcE.size {W V:World}{A:Array Value}(h:qcE W A V):W.heap.size+3≤V.heap.size:=ltA h.flt
theorem qmk (W:World)(A:Array Value):qcE W A (((W.alloc (.cells A 143)).alloc (.cells (hdC 0 0 0 false) 294)).alloc (.cells (qae (0,0)) 95)) :=
 ⟨((Below.heap_alloc _ _ _ (by simp;omega)).trans (Below.heap_alloc _ _ _ (by simp))).trans (qab _ _),(Below.heap_alloc _ _ _ (by simp)).trans (by have:=qab (W.alloc (.cells A 143)) (.cells (hdC 0 0 0 false) 294);simpa using this),by have:=qab ((W.alloc (.cells A 143)).alloc (.cells (hdC 0 0 0 false) 294)) (.cells (qae (0,0)) 95);simpa using this,((bwA).alloc (by simp) _).alloc (by simp;omega) _⟩
theorem zH {ops:Array Oper}{rest:List Oper}{o:Oper}{a:Act}{w:World}{Q:Exit→Act→World→Prop}(x y:Nat)(hgd:o.guard=none)(ho:o.op=.store 294 (.tmp x) (.tmp y))(g:Nat)(k n q:Int)(b:Bool)(hh:a.eval (.tmp x)=.pointer (some ⟨g,0,none⟩)∧a.eval (.tmp y)=.agg (hdC k n q b)∧w.heap[g]? = some (.cells (hdC 0 0 0 false) 294))(h:wpList prog ops Q rest (a.put o.dst undef) (w.setRow g (hdC k n q b))):wpList prog ops Q (o::rest) a w:=stH x y hgd ho g k n q b hh.1 hh.2.1 hh.2.2 h
theorem qcE.ck {P:Program}{f:FuncId}{args:Array Value}{r:Ending}{Q:Ending→World→Prop}{bs:List UInt8}{fm d l:Int}{W V:World}(h:qcE W (inA bs fm d l) V)(c:Calls P f args V fun e W'=>e=r∧Below V.heap.size V W')(k:∀w,Hid (qcE W (inA bs fm d l) w)→w.cell? ⟨W.heap.size,0,none⟩=(#[.string ⟨bs.toArray⟩,.int .i64 fm,.int .i64 d,.int .i64 l]:Array Value)[0]?→w.cell? ⟨W.heap.size,1,none⟩=(#[.string ⟨bs.toArray⟩,.int .i64 fm,.int .i64 d,.int .i64 l]:Array Value)[1]?→w.cell? ⟨W.heap.size,2,none⟩=(#[.string ⟨bs.toArray⟩,.int .i64 fm,.int .i64 d,.int .i64 l]:Array Value)[2]?→w.cell? ⟨W.heap.size,3,none⟩=(#[.string ⟨bs.toArray⟩,.int .i64 fm,.int .i64 d,.int .i64 l]:Array Value)[3]?→Q r w):Calls P f args V Q:=ck4 c h.next (fun _ h=>h.box) k
theorem qat (W:World)(bs:List UInt8)(fm d l:Int):Hid (qcE W (inA bs fm d l) (((W.alloc (.cells #[.string ⟨bs.toArray⟩,.int .i64 fm,.int .i64 d,.int .i64 l] 143)).alloc (.cells #[.int .i64 0,.int .i64 0,.int .i64 0,.bool false] 294)).alloc (.cells #[.int .i64 0,.int .i64 0] 95))):=qmk W _
theorem qcE.fin {W V:World}{A:Array Value}(h:qcE W A V)(y:Array Value)(x:Int×Int):((V.setRow (W.heap.size+1) y).setRow (W.heap.size+2) (qae x)).heap[W.heap.size+1]? = some (.cells y 294)∧((V.setRow (W.heap.size+1) y).setRow (W.heap.size+2) (qae x)).heap[W.heap.size+2]? = some (.cells (qae x) 95)∧Below W.heap.size W ((V.setRow (W.heap.size+1) y).setRow (W.heap.size+2) (qae x)):=by
 refine⟨?_,?_,qai (qai h.below (by omega) _) (by omega) _⟩
 ·rw[setRow_other _ _ _ _ (by omega)]
  exact setRow_heap _ _ _ _ _ _ h.hd
 ·exact setRow_heap _ _ _ _ _ _ (sx (by omega) h.flt)
def qb8 (R:Except (Int×Int) (Nat×Nat))(nv:Int)(ov:Bool)(F:Int×Int):Prop :=
 0≤nv∧nv≤9223372036854775807∧(∀x q,R=.ok (x,q)→F=(0,0)∧nv=min (x:Int) 9223372036854775807∧ov=decide (9223372036854775807<x))∧(∀f,R=.error f→F=f)
theorem qbd (R:Except (Int×Int) (Nat×Nat)):∃nv ov F,qlK R=.tuple #[.int .i64 nv,.bool ov,.agg (qae F)]∧qb8 R nv ov F:=by
 cases R with
 |error f=>exact⟨0,false,f,rfl,by omega,by omega,(fun x q e=>by cases e),(fun f' e=>by injection e)⟩
 |ok y =>
  obtain⟨x,q⟩:=y
  unfold qlK
  simp only[]
  by_cases h:9223372036854775807<x
  ·rw[if_pos h]
   refine⟨_,_,_,rfl,by omega,by omega,(fun x' q' e => ?_),(fun f' e=>by cases e)⟩
   injection e with e
   injection e with e1 e2
   subst e1
   exact⟨rfl,by omega,(decide_eq_true h).symm⟩
  ·rw[if_neg h]
   refine⟨_,_,_,rfl,by omega,by omega,(fun x' q' e => ?_),(fun f' e=>by cases e)⟩
   injection e with e
   injection e with e1 e2
   subst e1
   exact⟨rfl,by omega,(decide_eq_false h).symm⟩
def kdR (so:Nat):Int:=if so=2 then 1 else if so=3 then 2 else if so=4∨so=5∨so=6 then 3 else if so=7 then 5 else if so=8 then 4 else if so=9 then 6 else if so=10 then 7 else 0
def nR (so w x:Nat):Int:=if so=5 then qe3 x w else if so=6 then -1-min (x:Int) 9223372036854775807 else min (x:Int) 9223372036854775807
def ovR (so x:Nat):Bool:=if so=5 then false else decide (9223372036854775807<x)
def hdR (fm:Int)(bs:List UInt8)(lim:Int)(i:Nat):Except (Int×Int) (Nat×Nat×Nat×Nat):=match bs[i]? with
 |none=>.error (9,(i:Int))
 |some c=>if (i:Int)=lim then .error (8,(i:Int)) else if (hdO fm c.toNat).1=0 then .error (9,(i:Int)) else match qa0 bs lim (hdO fm c.toNat).2.1 (i+1) (hdO fm c.toNat).2.2 with
  |.error f=>.error f
  |.ok (x,q)=>.ok ((hdO fm c.toNat).1,(hdO fm c.toNat).2.1,x,q)
def qby (r:Except (Int×Int) (Nat×Nat×Nat×Nat))(e:Ending):Prop :=
 ∃a n q o F,e=.returned (.tuple #[.agg (hdC a n q o),.agg (qae F)])∧(∀so w x p,r=.ok (so,w,x,p)→a=kdR so∧n=nR so w x∧q=(p:Int)∧o=ovR so x∧F=(0,0))∧(∀f,r=.error f→F=f)
theorem qlt {r:Except (Int×Int) (Nat×Nat×Nat×Nat)}{f:Int×Int}(h:r=.error f)(a n q:Int)(o:Bool):qby r (.returned (.tuple #[.agg (hdC a n q o),.agg (qae f)])) :=
 ⟨a,n,q,o,f,rfl,(fun so w x p e=>by rw[h] at e;cases e),(fun f' e=>by rw[h] at e;injection e)⟩
theorem qdA {r:Except (Int×Int) (Nat×Nat×Nat×Nat)}{so w x p:Nat}{a n q:Int}{o:Bool}(h:r=.ok (so,w,x,p))(ha:a=kdR so)(hn:n=nR so w x)(hq:q=(p:Int))(ho:o=ovR so x):qby r (.returned (.tuple #[.agg (hdC a n q o),.agg (qae (0,0))])) :=
 ⟨a,n,q,o,(0,0),rfl,(fun so' w' x' p' e=>by rw[h] at e;injection e with e;cases e;exact⟨ha,hn,hq,ho,rfl⟩),(fun f' e=>by rw[h] at e;cases e)⟩
theorem qdw {fm:Int}{bs:List UInt8}{lim:Int}{i:Nat}{c:UInt8}{so k:Nat}(hc:bs[i]? = some c)(hp:¬(i:Int)=lim)(hi:InR bs lim (i+1))(hh:hdO fm c.toNat=(so,k,0))(h0:¬so=0){nv n:Int}{ov o:Bool}{F:Int×Int}{a q:Int}(hB:qb8 (qa0 bs lim k (i+1) 0) nv ov F)(ha:a=kdR so)(hq:q=(i:Int)+1+k)(hn:∀x:Nat,nv=min (x:Int) 9223372036854775807→n=nR so k x)(ho:∀x:Nat,ov=decide (9223372036854775807<x)→o=ovR so x):qby (hdR fm bs lim i) (.returned (.tuple #[.agg (hdC a n q o),.agg (qae F)])):=by
 have e:hdR fm bs lim i=match qa0 bs lim k (i+1) 0 with
  |.error f=>.error f
  |.ok (x,q)=>.ok (so,k,x,q):=by
  unfold hdR
  rw[hc]
  simp only[]
  rw[if_neg hp,hh,if_neg h0]
 cases hr:qa0 bs lim k (i+1) 0 with
 |error f =>
  rw[hr] at e
  have:=hB.2.2.2 f hr
  subst this
  exact qlt e _ _ _ _
 |ok y =>
  obtain⟨x,p⟩:=y
  rw[hr] at e
  obtain⟨h1,h2,h3⟩:=hB.2.2.1 x p hr
  subst h1
  refine qdA e ha (hn x h2) ?_ (ho x h3)
  have:=(qcH k (i+1) 0 x p hi hr).1
  rw[hq,this]
  omega
theorem qcV {fm:Int}{bs:List UInt8}{lim:Int}{i:Nat}{c:UInt8}{so x:Nat}(hc:bs[i]? = some c)(hp:¬(i:Int)=lim)(hh:hdO fm c.toNat=(so,0,x))(h0:¬so=0):hdR fm bs lim i=.ok (so,0,x,i+1):=by
 unfold hdR
 rw[hc]
 simp only[]
 rw[if_neg hp,hh,if_neg h0]
 rfl
theorem qhJ {fm:Int}{bs:List UInt8}{lim:Int}{i:Nat}{c:UInt8}(hc:bs[i]? = some c)(hp:¬(i:Int)=lim)(hh:(hdO fm c.toNat).1=0):hdR fm bs lim i=.error (9,(i:Int)):=by
 unfold hdR
 rw[hc]
 simp only[]
 rw[if_neg hp,if_pos hh]
def tpF (c:UInt8):Int:=if 128≤c.toNat then (c.toNat:Int)-256 else (c.toNat:Int)
def qcT (R:Except (Int×Int) (Nat×Nat))(c:UInt8)(i k:Nat)(e:Ending):Prop :=
 ∃a n q o F,e=.returned (.tuple #[.agg (hdC a n q o),.agg (qae F)])∧(∀y p,R=.ok (y,p)→a=3∧n=tpF c*256^(k-1)+y∧q=(i:Int)+1+k∧o=false∧F=(0,0))∧(∀f,R=.error f→F=f)
theorem qjm {bs:List UInt8}{l lim:Int}(hl:Lm bs l lim):∀(k p a:Nat) (f:Int×Int),InR bs lim p→qa0 bs lim k p a=.error f→∃p':Nat,f.2=(p':Int)∧qaI bs l p' f.1=f∧¬f.1=0
 |0,p,a,f,_,h=>by rw[qa0] at h;cases h
 |k+1,p,a,f,hi,h=>by
  rw[qa0] at h
  cases hc:bs[p]? with
  |none =>
   rw[hc] at h
   injection h with h
   subst h
   exact⟨p,rfl,qaH hi.1 hc 9,by simp⟩
  |some c =>
   rw[hc] at h
   simp only[] at h
   by_cases hp:(p:Int)=lim
   ·rw[if_pos hp] at h
    injection h with h
    subst h
    exact⟨p,rfl,qaU hl hc hp 8,by simp⟩
   ·rw[if_neg hp] at h
    exact qjm hl k (p+1) _ f (qav hi hc hp) h
theorem qc9 (bs:List UInt8)(lim:Int):∀(k p a x q:Nat),qa0 bs lim k p a=.ok (x,q)→x<(a+1)*256^k
 |0,p,a,x,q,h=>by
  rw[qa0] at h
  injection h with h
  injection h with h1 h2
  subst h1
  simp
 |k+1,p,a,x,q,h=>by
  rw[qa0] at h
  cases hc:bs[p]? with
  |none=>rw[hc] at h;cases h
  |some c =>
   rw[hc] at h
   simp only[] at h
   by_cases hp:(p:Int)=lim
   ·rw[if_pos hp] at h;cases h
   ·rw[if_neg hp] at h
    have h1:=qc9 bs lim k (p+1) (a*256+c.toNat) x q h
    have h2:=c.toNat_lt
    have h3:(a*256+c.toNat+1)*256^k≤((a+1)*256)*256^k:=Nat.mul_le_mul_right _ (by omega)
    rw[Nat.pow_succ,Nat.mul_comm (256^k) 256,←Nat.mul_assoc]
    omega
theorem qkz (c:UInt8):-128≤tpF c∧tpF c≤127:=by
 have:=c.toNat_lt
 unfold tpF
 split<;>omega
theorem qjf (c:UInt8)(j:Nat)(hj:j≤7):-9223372036854775808≤tpF c*256^j∧tpF c*256^j+256^j≤9223372036854775808:=by
 obtain⟨h1,h2⟩:=qkz c
 have hj':j=0∨j=1∨j=2∨j=3∨j=4∨j=5∨j=6∨j=7:=by omega
 rcases hj' with rfl|rfl|rfl|rfl|rfl|rfl|rfl|rfl<;>simp<;>omega
theorem qeG (W:World)(bs:List UInt8)(fm d l lim:Int)(i:Nat)(k:Nat)(hk0:1≤k)(hk:k≤8)(c:UInt8)(hl:Lm bs l lim)(hb:bs.length≤200000000)(hi2:i+1<bs.length)(hi:InR bs lim (i+2))(f:Int×Int)(hR:qa0 bs lim (k-1) (i+2) 0=.error f):Calls prog 233 #[.agg (inA bs fm d l),.int .i64 i,.int .i64 k] W fun e W'=>qcT (qa0 bs lim (k-1) (i+2) 0) c i k e∧Below W.heap.size W W':=by
 have cG:∀V,Calls prog 231 #[.agg #[.string ⟨bs.toArray⟩,.int .i64 fm,.int .i64 d,.int .i64 l],.int .i64 ((i:Int)+2),.int .i64 ((k:Int)-1)] V fun e W'=>e=.returned (.tuple #[.int .i64 0,.bool false,.agg (qae f)])∧Below V.heap.size V W':=fun V=>by
  have h:=qbF V bs fm d l lim (i+2) (k-1) (by omega) hl hi hb
  rw[hR,show((k-1:Nat):Int)=(k:Int)-1 by omega] at h
  unfold qlK at h
  simp only[] at h
  exact h
 obtain⟨p',hf2,hbd,hf0⟩:=qjm hl (k-1) (i+2) 0 f hi hR
 have hne:(f.1==0)=false:=by simpa using hf0
 have cB1:∀V,Calls prog 71 #[.agg #[.string ⟨bs.toArray⟩,.int .i64 fm,.int .i64 d,.int .i64 l],.int .i64 f.2,.int .i64 f.1] V fun e W'=>e=.returned (.agg (qae f))∧Below V.heap.size V W':=fun V=>by
  have h:=qaR V bs fm d l p' f.1
  rw[hbd,←hf2] at h
  exact h
 have HX:=qat W bs fm d l
 have HR:Hid (qa0 bs lim (k-1) (i+2) 0=.error f):=hR
 clear hl hi hR hf2 hbd hf0
 unfold inA
 go_enter func233,ntmps233
 go_wp2_with (first
  |(go_at_call 231;refine ck (cG _) HX.out.next ?_;clear cG;intro w3 HX3)
  |(go_at_call 71;refine HX4.out.ck (cB1 _) ?_;clear cB1 c0 c1 c2 c3;intro w5 HX5 c0 c1 c2 c3)
  |((with_reducible refine zF 10 22 rfl rfl (w3.heap.size) (f) ?_ ?_);exact⟨rfl,rfl,qab w3 _⟩;refine nmd ?_;intro V4 EV4;have HX4:Hid (qcE W (inA bs fm d l) V4):=EV4▸HX3.out.next (qal _ _);have HF4:Hid (V4.heap[w3.heap.size]? = some (.cells (qae (f)) 95)):=EV4▸setRow_heap _ _ _ _ _ _ (qab _ _);have HLT:Hid (W.heap.size+3≤w3.heap.size):=HX3.out.size;clear EV4;generalize w3.heap.size=M at *;have u0:V4.cell? ⟨M,0,none⟩=some (.int .i64 (f.1)):=qaa HF4.out 0;have u1:V4.cell? ⟨M,1,none⟩=some (.int .i64 (f.2)):=qaa HF4.out 1;obtain⟨c0,c1,c2,c3⟩:=qa3 HX4.out.box)
  |((with_reducible refine zH 6 26 rfl rfl (W.heap.size+1) 0 0 0 false ?_ ?_);exact⟨rfl,rfl,HX5.out.hd⟩)
  |((with_reducible refine zF 7 32 rfl rfl (W.heap.size+2) (f) ?_ ?_);exact⟨rfl,rfl,sx (by omega) HX5.out.flt⟩))
 have hf:=HX5.out.fin (hdC 0 0 0 false) (f)
 refine eoH results233 hf rfl rfl rfl ⟨?_,hf.2.2⟩
 exact⟨0,0,0,false,f,rfl,(fun y p e=>by rw[HR.out] at e;cases e),(fun f' e=>by rw[HR.out] at e;injection e)⟩
theorem qe9 (W:World)(bs:List UInt8)(fm d l lim:Int)(i:Nat)(k:Nat)(hk0:1≤k)(hk:k≤8)(c:UInt8)(hl:Lm bs l lim)(hb:bs.length≤200000000)(hi2:i+1<bs.length)(hi:InR bs lim (i+2))(hc:bs[i+1]? = some c)(hcc:128≤c.toNat)(y p:Nat)(hR:qa0 bs lim (k-1) (i+2) 0=.ok (y,p)):Calls prog 233 #[.agg (inA bs fm d l),.int .i64 i,.int .i64 k] W fun e W'=>qcT (qa0 bs lim (k-1) (i+2) 0) c i k e∧Below W.heap.size W W':=by
 have hix:∀V,(Instr.index 9 (.string ⟨bs.toArray⟩) (.int .i64 ((i:Int)+1))).run prog V=.ok (.int .u8 c.toNat) V:=fun V=>qah bs (i+1) c hc V
 have hc255:=c.toNat_lt
 have HT:Hid (tpF c=(c.toNat:Int)-256):=by
  show _=_
  unfold tpF
  rw[if_pos hcc]
 have t128:decide (128≤(c.toNat:Int))=true:=by simp;omega
 have cG:∀V,Calls prog 231 #[.agg #[.string ⟨bs.toArray⟩,.int .i64 fm,.int .i64 d,.int .i64 l],.int .i64 ((i:Int)+2),.int .i64 ((k:Int)-1)] V fun e W'=>e=.returned (.tuple #[.int .i64 y,.bool false,.agg (qae (0,0))])∧Below V.heap.size V W':=fun V=>by
  have h:=qbF V bs fm d l lim (i+2) (k-1) (by omega) hl hi hb
  rw[hR,show((k-1:Nat):Int)=(k:Int)-1 by omega] at h
  unfold qlK at h
  simp only[] at h
  rw[if_neg (by have:=qc9 bs lim _ _ _ _ _ hR;have:(0+1)*256^(k-1)≤(0+1)*256^7:=Nat.mul_le_mul_left _ (Nat.pow_le_pow_right (by decide) (by omega));omega)] at h
  exact h
 have HX:=qat W bs fm d l
 have HR:Hid (qa0 bs lim (k-1) (i+2) 0=.ok (y,p)):=hR
 have HY:Hid ((y:Int)<256^(k-1)):=by
  show _<_
  have:=qc9 bs lim _ _ _ _ _ hR
  rw[Nat.zero_add,Nat.one_mul] at this
  exact_mod_cast this
 clear hl hi hR hc hcc
 unfold inA
 go_enter func233,ntmps233
 go_wp2_with (first
  |(go_at_call 231;refine ck (cG _) HX.out.next ?_;clear cG;intro w3 HX3)
  |((with_reducible refine zF 10 22 rfl rfl (w3.heap.size) (0,0) ?_ ?_);exact⟨rfl,rfl,qab w3 _⟩;refine nmd ?_;intro V4 EV4;have HX4:Hid (qcE W (inA bs fm d l) V4):=EV4▸HX3.out.next (qal _ _);have HF4:Hid (V4.heap[w3.heap.size]? = some (.cells (qae (0,0)) 95)):=EV4▸setRow_heap _ _ _ _ _ _ (qab _ _);have HLT:Hid (W.heap.size+3≤w3.heap.size):=HX3.out.size;clear EV4;generalize w3.heap.size=M at *;have u0:V4.cell? ⟨M,0,none⟩=some (.int .i64 (0)):=qaa HF4.out 0;have u1:V4.cell? ⟨M,1,none⟩=some (.int .i64 (0)):=qaa HF4.out 1;obtain⟨c0,c1,c2,c3⟩:=qa3 HX4.out.box))
 go_loopg [11,12] (k-1) (fun g zt zj wr=>wr=V4∧∃(j:Nat) (tz:Int),zt=.int .i64 tz∧zj=.int .i64 ((j:Int)+1)∧Hid (j+g=k-1)∧Hid (tz=tpF c*256^j))
 case atStart=>exact⟨rfl,0,_,rfl,rfl,by show _=_;omega,by show _=_;rw[HT.out];simp⟩
 case round =>
  clear c0 c1 c2 c3 u0 u1
  obtain⟨rfl,j,tz,rfl,rfl,hg,HZ⟩:=hrel
  cases gk with
  |zero =>
   have hj:j=k-1:=by have:=hg.out;omega
   have hlt:¬(j:Int)+1<(k:Int):=by omega
   have HB:=qjf c (k-1) (by omega)
   have hz : -9223372036854775808≤tz+(y:Int)∧tz+(y:Int)≤9223372036854775807:=by
    have h1:=HZ.out
    have h2:=HY.out
    rw[hj] at h1
    rw[h1]
    omega
   have hz1:=hz.1
   have hz2:=hz.2
   have HZ2:Hid (tz=tpF c*256^(k-1)):=by show _=_;rw[HZ.out,hj]
   clear HZ HB hg hj hz HT
   go_wp2_with (first
    |((with_reducible refine zH 6 57 rfl rfl (W.heap.size+1) 3 (tz+y) ((i:Int)+1+k) false ?_ ?_);exact⟨rfl,rfl,HX4.out.hd⟩)
    |((with_reducible refine zF 7 58 rfl rfl (W.heap.size+2) (0,0) ?_ ?_);exact⟨rfl,rfl,sx (by omega) HX4.out.flt⟩))
   have hf:=HX4.out.fin (hdC 3 (tz+y) ((i:Int)+1+k) false) (0,0)
   refine eoH results233 hf rfl rfl rfl ⟨?_,hf.2.2⟩
   exact⟨_,_,_,_,_,rfl,(fun y' p' e=>by rw[HR.out] at e;injection e with e;injection e with e1 e2;subst e1;exact⟨rfl,by rw[HZ2.out],rfl,rfl,rfl⟩),(fun f' e=>by rw[HR.out] at e;cases e)⟩
  |succ g =>
   have hlt:(j:Int)+1<(k:Int):=by have:=hg.out;omega
   have HB:=qjf c (j+1) (by have:=hg.out;omega)
   have hpw:(0:Int)≤256^(j+1):=Int.pow_nonneg (by decide)
   have hzz:tz*256=tpF c*256^(j+1):=by rw[HZ.out,Int.pow_succ,Int.mul_assoc]
   have hz1 : -9223372036854775808≤tz*256:=by rw[hzz];exact HB.1
   have hz2:tz*256≤9223372036854775807:=by
    have hp1:(1:Int)≤256^(j+1):=Int.pow_pos (by decide)
    rw[hzz];have:=HB.2;omega
   have HN:Hid (tz*256=tpF c*256^(j+1)):=hzz
   have hjk:(j:Int)≤7:=by have:=hg.out;omega
   clear hzz HB hpw HZ HT
   go_wp2
   go_roundg g
   case measure=>omega
   case rel=>exact⟨rfl,j+1,tz*256,rfl,by go_num,by show _=_;have:=hg.out;omega,HN⟩
theorem qe6 (W:World)(bs:List UInt8)(fm d l lim:Int)(i:Nat)(k:Nat)(hk0:1≤k)(hk:k≤8)(c:UInt8)(hl:Lm bs l lim)(hb:bs.length≤200000000)(hi2:i+1<bs.length)(hi:InR bs lim (i+2))(hc:bs[i+1]? = some c)(hcc:c.toNat<128)(y p:Nat)(hR:qa0 bs lim (k-1) (i+2) 0=.ok (y,p)):Calls prog 233 #[.agg (inA bs fm d l),.int .i64 i,.int .i64 k] W fun e W'=>qcT (qa0 bs lim (k-1) (i+2) 0) c i k e∧Below W.heap.size W W':=by
 have hix:∀V,(Instr.index 9 (.string ⟨bs.toArray⟩) (.int .i64 ((i:Int)+1))).run prog V=.ok (.int .u8 c.toNat) V:=fun V=>qah bs (i+1) c hc V
 have hc255:=c.toNat_lt
 have HT:Hid (tpF c=(c.toNat:Int)):=by
  show _=_
  unfold tpF
  rw[if_neg (by omega)]
 have t128:decide (128≤(c.toNat:Int))=false:=by simp;omega
 have cG:∀V,Calls prog 231 #[.agg #[.string ⟨bs.toArray⟩,.int .i64 fm,.int .i64 d,.int .i64 l],.int .i64 ((i:Int)+2),.int .i64 ((k:Int)-1)] V fun e W'=>e=.returned (.tuple #[.int .i64 y,.bool false,.agg (qae (0,0))])∧Below V.heap.size V W':=fun V=>by
  have h:=qbF V bs fm d l lim (i+2) (k-1) (by omega) hl hi hb
  rw[hR,show((k-1:Nat):Int)=(k:Int)-1 by omega] at h
  unfold qlK at h
  simp only[] at h
  rw[if_neg (by have:=qc9 bs lim _ _ _ _ _ hR;have:(0+1)*256^(k-1)≤(0+1)*256^7:=Nat.mul_le_mul_left _ (Nat.pow_le_pow_right (by decide) (by omega));omega)] at h
  exact h
 have HX:=qat W bs fm d l
 have HR:Hid (qa0 bs lim (k-1) (i+2) 0=.ok (y,p)):=hR
 have HY:Hid ((y:Int)<256^(k-1)):=by
  show _<_
  have:=qc9 bs lim _ _ _ _ _ hR
  rw[Nat.zero_add,Nat.one_mul] at this
  exact_mod_cast this
 clear hl hi hR hc hcc
 unfold inA
 go_enter func233,ntmps233
 go_wp2_with (first
  |(go_at_call 231;refine ck (cG _) HX.out.next ?_;clear cG;intro w3 HX3)
  |((with_reducible refine zF 10 22 rfl rfl (w3.heap.size) (0,0) ?_ ?_);exact⟨rfl,rfl,qab w3 _⟩;refine nmd ?_;intro V4 EV4;have HX4:Hid (qcE W (inA bs fm d l) V4):=EV4▸HX3.out.next (qal _ _);have HF4:Hid (V4.heap[w3.heap.size]? = some (.cells (qae (0,0)) 95)):=EV4▸setRow_heap _ _ _ _ _ _ (qab _ _);have HLT:Hid (W.heap.size+3≤w3.heap.size):=HX3.out.size;clear EV4;generalize w3.heap.size=M at *;have u0:V4.cell? ⟨M,0,none⟩=some (.int .i64 (0)):=qaa HF4.out 0;have u1:V4.cell? ⟨M,1,none⟩=some (.int .i64 (0)):=qaa HF4.out 1;obtain⟨c0,c1,c2,c3⟩:=qa3 HX4.out.box))
 go_loopg [11,12] (k-1) (fun g zt zj wr=>wr=V4∧∃(j:Nat) (tz:Int),zt=.int .i64 tz∧zj=.int .i64 ((j:Int)+1)∧Hid (j+g=k-1)∧Hid (tz=tpF c*256^j))
 case atStart=>exact⟨rfl,0,_,rfl,rfl,by show _=_;omega,by show _=_;rw[HT.out];simp⟩
 case round =>
  clear c0 c1 c2 c3 u0 u1
  obtain⟨rfl,j,tz,rfl,rfl,hg,HZ⟩:=hrel
  cases gk with
  |zero =>
   have hj:j=k-1:=by have:=hg.out;omega
   have hlt:¬(j:Int)+1<(k:Int):=by omega
   have HB:=qjf c (k-1) (by omega)
   have hz : -9223372036854775808≤tz+(y:Int)∧tz+(y:Int)≤9223372036854775807:=by
    have h1:=HZ.out
    have h2:=HY.out
    rw[hj] at h1
    rw[h1]
    omega
   have hz1:=hz.1
   have hz2:=hz.2
   have HZ2:Hid (tz=tpF c*256^(k-1)):=by show _=_;rw[HZ.out,hj]
   clear HZ HB hg hj hz HT
   go_wp2_with (first
    |((with_reducible refine zH 6 57 rfl rfl (W.heap.size+1) 3 (tz+y) ((i:Int)+1+k) false ?_ ?_);exact⟨rfl,rfl,HX4.out.hd⟩)
    |((with_reducible refine zF 7 58 rfl rfl (W.heap.size+2) (0,0) ?_ ?_);exact⟨rfl,rfl,sx (by omega) HX4.out.flt⟩))
   have hf:=HX4.out.fin (hdC 3 (tz+y) ((i:Int)+1+k) false) (0,0)
   refine eoH results233 hf rfl rfl rfl ⟨?_,hf.2.2⟩
   exact⟨_,_,_,_,_,rfl,(fun y' p' e=>by rw[HR.out] at e;injection e with e;injection e with e1 e2;subst e1;exact⟨rfl,by rw[HZ2.out],rfl,rfl,rfl⟩),(fun f' e=>by rw[HR.out] at e;cases e)⟩
  |succ g =>
   have hlt:(j:Int)+1<(k:Int):=by have:=hg.out;omega
   have HB:=qjf c (j+1) (by have:=hg.out;omega)
   have hpw:(0:Int)≤256^(j+1):=Int.pow_nonneg (by decide)
   have hzz:tz*256=tpF c*256^(j+1):=by rw[HZ.out,Int.pow_succ,Int.mul_assoc]
   have hz1 : -9223372036854775808≤tz*256:=by rw[hzz];exact HB.1
   have hz2:tz*256≤9223372036854775807:=by
    have hp1:(1:Int)≤256^(j+1):=Int.pow_pos (by decide)
    rw[hzz];have:=HB.2;omega
   have HN:Hid (tz*256=tpF c*256^(j+1)):=hzz
   have hjk:(j:Int)≤7:=by have:=hg.out;omega
   clear hzz HB hpw HZ HT
   go_wp2
   go_roundg g
   case measure=>omega
   case rel=>exact⟨rfl,j+1,tz*256,rfl,by go_num,by show _=_;have:=hg.out;omega,HN⟩
theorem qb5 (W:World)(bs:List UInt8)(fm d l lim:Int)(i:Nat)(k:Nat)(hk0:1≤k)(hk:k≤8)(c:UInt8)(hl:Lm bs l lim)(hb:bs.length≤200000000)(hi:InR bs lim (i+2))(hc:bs[i+1]? = some c):Calls prog 233 #[.agg (inA bs fm d l),.int .i64 i,.int .i64 k] W fun e W'=>qcT (qa0 bs lim (k-1) (i+2) 0) c i k e∧Below W.heap.size W W':=by
 have h2:=ltL hc
 cases hR:qa0 bs lim (k-1) (i+2) 0 with
 |error f=>have h:=qeG W bs fm d l lim i k hk0 hk c hl hb h2 hi f hR;rw[hR] at h;exact h
 |ok x =>
  obtain⟨y,p⟩:=x
  by_cases h128:128≤c.toNat
  ·have h:=qe9 W bs fm d l lim i k hk0 hk c hl hb h2 hi hc h128 y p hR;rw[hR] at h;exact h
  ·have h:=qe6 W bs fm d l lim i k hk0 hk c hl hb h2 hi hc (by omega) y p hR;rw[hR] at h;exact h
end
end Go.Proofs.YtllcbnfmihfaaaaGreatDoor
