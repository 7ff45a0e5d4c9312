import Derived.Test.YtllcbnfmihfaaaaGreatDoorTq21
set_option maxRecDepth 100000
set_option maxHeartbeats 8000000
namespace Go.Proofs.YtllcbnfmihfaaaaGreatDoor
open Go.Proofs.Tryz
variable {rd:Nat→Except (Int×Int) (DataW Unit×Nat)}{bs:List UInt8}{d fm l lim:Int}{M b g last:Nat}{V W W' w:World}{p u u2:Tmp}{fn:Func}{A:Array Value}{F f:Int×Int}{v:Value}
section
open Go.RowKit
def Bad {α:Type}(r:Except (Int×Int) α):Prop:=∀en pl,r=.error (en,pl)→en≠0
theorem qii (bs:List UInt8)(lim:Int):∀(k p a:Nat),Bad (qd9 bs lim k p a)
 |0,p,a,en,pl,h=>by rw[qd9] at h;cases h
 |k+1,p,a,en,pl,h=>by
  rw[qd9] at h
  repeat' split at h
  all_goals first|(injection h with h;injection h with h1 h2;omega)|exact qii bs lim k _ _ en pl h
theorem qln (so w:Int)(x:Nat)(p:Int):Bad (nbF so w x p):=fun en pl h=>by
 unfold nbF at h
 repeat' split at h
 all_goals first|(injection h with h;injection h with h1 h2;omega)|cases h
theorem qlY (bs:List UInt8)(lim:Int):∀(k p:Nat) (acc:List UInt8),Bad (qhb bs lim k p acc)
 |0,p,acc,en,pl,h=>by rw[qhb] at h;cases h
 |k+1,p,acc,en,pl,h=>by
  rw[qhb] at h
  repeat' split at h
  all_goals first|(injection h with h;injection h with h1 h2;omega)|exact qlY bs lim k _ _ en pl h
theorem qhA (bs:List UInt8)(lim:Int):∀(k p:Nat) (acc:List UInt8) (wh:Nat),Bad (qfg bs lim k p acc wh)
 |0,p,acc,wh,en,pl,h=>by
  rw[qfg] at h;split at h
  ·cases h
  injection h with h;injection h with h1 h2;omega
 |k+1,p,acc,wh,en,pl,h=>by
  rw[qfg] at h;split at h
  ·injection h with h;injection h with h1 h2;omega
  split at h
  ·injection h with h;injection h with h1 h2;omega
  split at h
  ·injection h with h;injection h with h1 h2;omega
  exact qhA bs lim k _ _ _ en pl h
theorem qsa (hd:Nat→Nat×Nat×Nat)(bs:List UInt8)(lim:Int)(ks:List (List UInt8))(p:Nat):Bad (qfr hd bs lim ks p):=fun en pl h=>by
 unfold qfr at h;split at h
 ·injection h with h;injection h with h1 h2;omega
 split at h
 ·injection h with h;injection h with h1 h2;omega
 split at h
 ·split at h
  ·next e he=>injection h with h;subst h;exact qii bs lim _ _ _ en pl he
  split at h
  ·next e he=>injection h with h;subst h;exact qhA bs lim _ _ _ _ en pl he
  split at h
  ·injection h with h;injection h with h1 h2;omega
  cases h
 injection h with h;injection h with h1 h2;omega
theorem qh0 (hrd:∀p,Bad (rd p)):∀(n p:Nat) (acc:List (DataW Unit)),Bad (qb9 rd n p acc)
 |0,p,acc,en,pl,h=>by rw[qb9] at h;cases h
 |n+1,p,acc,en,pl,h=>by
  rw[qb9] at h;split at h
  ·next e he=>injection h with h;subst h;exact hrd _ en pl he
  exact qh0 hrd n _ _ en pl h
theorem qeT {kf:List (List UInt8)→Nat→Except (Int×Int) (List UInt8×Nat)}(hkf:∀ks p,Bad (kf ks p))(hrd:∀p,Bad (rd p)):∀(n p:Nat) (ks:List (List UInt8)) (acc:List (Lit×DataW Unit)),Bad (qaI kf rd n p ks acc)
 |0,p,ks,acc,en,pl,h=>by rw[qaI] at h;cases h
 |n+1,p,ks,acc,en,pl,h=>by
  rw[qaI] at h;split at h
  ·next e he=>injection h with h;subst h;exact hkf _ _ en pl he
  split at h
  ·next e he=>injection h with h;subst h;exact hrd _ en pl he
  exact qeT hkf hrd n _ _ _ en pl h
theorem qrR {li:Nat→Nat→Except (Int×Int) (List (DataW Unit)×Nat)}{ma:Nat→Nat→Except (Int×Int) (List (Lit×DataW Unit)×Nat)}{so w x q:Nat}(hli:so=9→∀x q,Bad (li x q))(hma:so=10→∀x q,Bad (ma x q)):Bad (qjF bs lim li ma so w x q):=fun en pl h=>by
 unfold qjF at h;split at h
 ·cases h
 ·cases h
 ·split at h
  ·next e he=>injection h with h;subst h;exact qln _ _ _ _ en pl he
  cases h
 ·split at h
  ·next e he=>injection h with h;subst h;exact qln _ _ _ _ en pl he
  cases h
 ·split at h
  ·next e he=>injection h with h;subst h;exact qln _ _ _ _ en pl he
  cases h
 ·split at h
  ·next e he=>injection h with h;subst h;exact qlY _ _ _ _ _ en pl he
  cases h
 ·split at h
  ·next e he=>injection h with h;subst h;exact qhA _ _ _ _ _ _ en pl he
  cases h
 ·split at h
  ·next e he=>injection h with h;subst h;exact hli rfl _ _ en pl he
  cases h
 ·split at h
  ·next e he=>injection h with h;subst h;exact hma rfl _ _ en pl he
  cases h
 cases h
theorem qlo (hd:Nat→Nat×Nat×Nat)(bs:List UInt8)(lim depth:Int):∀(g wi p:Nat),(wi:Int)≤depth→depth<wi+g→Bad (thB hd bs lim depth g wi p)
 |0,wi,p,h1,h2,_,_,_=>by omega
 |g+1,wi,p,h1,h2,en,pl,h=>by
  cases hc:bs[p]? with
  |none =>
   unfold thB at h;rw[hc] at h;injection h with h;injection h with h3 h4;omega
  |some c =>
   by_cases hl:(p:Int)=lim
   ·unfold thB at h;rw[hc] at h;simp only[] at h;rw[if_pos hl] at h;injection h with h;injection h with h3 h4;omega
   rw[qhJ hc hl rfl] at h;split at h
   ·injection h with h;injection h with h3 h4;omega
   split at h
   ·injection h with h;injection h with h3 h4;omega
   next hn =>
   split at h
   ·next e he=>injection h with h;subst h;exact qii _ _ _ _ _ en pl he
   have ih:¬(wi:Int)=depth→∀q,Bad (thB hd bs lim depth g (wi+1) q):=fun hne q=>qlo hd bs lim depth g (wi+1) q (by omega) (by omega);exact qrR (fun h9 x q=>qh0 (ih (fun hh=>hn ⟨.inl h9,hh⟩)) _ _ _) (fun h10 x q=>qeT (fun ks p=>qsa hd bs lim ks p) (ih (fun hh=>hn ⟨.inr h10,hh⟩)) _ _ _ _) en pl h
theorem qdH (bs:List UInt8)(lim:Int):∀(k p:Nat),Bad (spF bs lim k p)
 |0,p,en,pl,h=>by rw[spF] at h;cases h
 |k+1,p,en,pl,h=>by
  rw[spF] at h;split at h
  ·cases h
  split at h
  ·injection h with h;injection h with h1 h2;omega
  split at h
  ·exact qdH bs lim k _ en pl h
  cases h
theorem qbW (bs:List UInt8)(lim:Int):∀(l:List UInt8) (p:Nat),Bad (qaT bs lim l p)
 |[],p,en,pl,h=>by rw[qaT] at h;cases h
 |x::xs,p,en,pl,h=>by
  rw[qaT] at h;split at h
  ·injection h with h;injection h with h1 h2;omega
  split at h
  ·injection h with h;injection h with h1 h2;omega
  split at h
  ·exact qbW bs lim xs _ en pl h
  injection h with h;injection h with h1 h2;omega
theorem qio (bs:List UInt8)(lim:Int):∀(k p a:Nat),Bad (qgA bs lim k p a)
 |0,p,a,en,pl,h=>by rw[qgA] at h;cases h
 |k+1,p,a,en,pl,h=>by
  rw[qgA] at h;split at h
  ·injection h with h;injection h with h1 h2;omega
  split at h
  ·injection h with h;injection h with h1 h2;omega
  split at h
  ·injection h with h;injection h with h1 h2;omega
  exact qio bs lim k _ _ en pl h
theorem qpL (bs:List UInt8)(lim:Int)(p:Nat):Bad (qgy bs lim p):=fun en pl h=>by
 unfold qgy at h;split at h
 ·next e he=>injection h with h;subst h;exact qio _ _ _ _ _ en pl he
 split at h
 ·injection h with h;injection h with h1 h2;omega
 split at h
 ·split at h
  ·next e he=>injection h with h;subst h;exact qbW _ _ _ _ en pl he
  split at h
  ·next e he=>injection h with h;subst h;exact qio _ _ _ _ _ en pl he
  split at h
  ·cases h
  injection h with h;injection h with h1 h2;omega
 cases h
theorem qqz (bs:List UInt8)(lim:Int)(p:Nat):Bad (qnj bs lim p):=fun en pl h=>by
 unfold qnj at h;split at h
 ·injection h with h;injection h with h1 h2;omega
 split at h
 ·injection h with h;injection h with h1 h2;omega
 repeat' split at h
 all_goals first|(injection h with h;injection h with h1 h2;omega)|exact qpL _ _ _ en pl h|cases h
theorem qf3 (bs:List UInt8)(lim:Int):∀(g p:Nat) (acc:List UInt8) (wh:Nat),Bad (qfe bs lim g p acc wh)
 |0,p,acc,wh,en,pl,h=>by rw[qfe] at h;injection h with h;injection h with h1 h2;omega
 |g+1,p,acc,wh,en,pl,h=>by
  rw[qfe] at h;split at h
  ·injection h with h;injection h with h1 h2;omega
  split at h
  ·injection h with h;injection h with h1 h2;omega
  split at h
  ·cases h
  split at h
  ·split at h
   ·next e he=>injection h with h;subst h;exact qqz _ _ _ en pl he
   exact qf3 bs lim g _ _ _ en pl h
  split at h
  ·injection h with h;injection h with h1 h2;omega
  split at h
  ·injection h with h;injection h with h1 h2;omega
  exact qf3 bs lim g _ _ _ en pl h
theorem qiq (bs:List UInt8)(lim:Int)(most:Nat)(z:Bool):∀(g p num:Nat),Bad (qfi bs lim most z g p num)
 |0,p,num,en,pl,h=>by unfold qfi at h;cases h
 |g+1,p,num,en,pl,h=>by
  unfold qfi at h;split at h
  ·cases h
  split at h
  ·injection h with h;injection h with h1 h2;omega
  split at h
  ·split at h
   ·injection h with h;injection h with h1 h2;omega
   split at h
   ·injection h with h;injection h with h1 h2;omega
   exact qiq bs lim most z g _ _ en pl h
  split at h
  ·injection h with h;injection h with h1 h2;omega
  cases h
theorem qqA (s:Src)(c:UInt8):Bad (qg4 s c):=fun en pl h=>by
 unfold qg4 at h;split at h
 ·split at h
  ·injection h with h;injection h with h1 h2;omega
  split at h
  ·injection h with h;injection h with h1 h2;omega
  split at h
  ·split at h
   ·cases h
   next e he=>injection h with h;subst h;exact qiq _ _ _ _ _ _ _ en pl he
  injection h with h;injection h with h1 h2;omega
 split at h
 ·cases h
 next e he=>injection h with h;subst h;exact qiq _ _ _ _ _ _ _ en pl he
theorem qiD {α:Type}{itF:α→Nat→Except (Int×Int) (α×Nat)}(hit:∀a p,Bad (itF a p)):∀(g p:Nat) (a:α),Bad (qgW bs lim itF last g p a)
 |0,p,a,en,pl,h=>by rw[qgW] at h;injection h with h;injection h with h1 h2;omega
 |g+1,p,a,en,pl,h=>by
  rw[qgW] at h;split at h
  ·next e he=>injection h with h;subst h;exact qdH _ _ _ _ en pl he
  split at h
  ·next e he=>injection h with h;subst h;exact hit _ _ en pl he
  split at h
  ·next e he=>injection h with h;subst h;exact qdH _ _ _ _ en pl he
  split at h
  ·injection h with h;injection h with h1 h2;omega
  split at h
  ·injection h with h;injection h with h1 h2;omega
  split at h
  ·cases h
  split at h
  ·exact qiD hit g _ _ en pl h
  injection h with h;injection h with h1 h2;omega
theorem qlH {α:Type}{itF:α→Nat→Except (Int×Int) (α×Nat)}(hit:∀a p,Bad (itF a p))(p:Nat)(a:α):Bad (qe4 bs lim itF last p a):=fun en pl h=>by
 unfold qe4 at h;split at h
 ·next e he=>injection h with h;subst h;exact qdH _ _ _ _ en pl he
 split at h
 ·exact qiD hit _ _ _ en pl h
 split at h
 ·injection h with h;injection h with h1 h2;omega
 split at h
 ·cases h
 exact qiD hit _ _ _ en pl h
theorem qtS (hrd:∀p,Bad (rd p))(a:List (DataW Unit))(p:Nat):Bad (liJ rd a p):=fun en pl h=>by
 unfold liJ at h;split at h
 ·next e he=>injection h with h;subst h;exact hrd _ en pl he
 cases h
theorem qre (bs:List UInt8)(lim:Int)(ks:List (List UInt8))(p:Nat):Bad (qmo bs lim ks p):=fun en pl h=>by
 unfold qmo at h;split at h
 ·next e he=>injection h with h;subst h;exact qbW _ _ _ _ en pl he
 split at h
 ·next e he=>injection h with h;subst h;exact qf3 _ _ _ _ _ _ en pl he
 split at h
 ·injection h with h;injection h with h1 h2;omega
 cases h
theorem quB (hrd:∀p,Bad (rd p))(a:List (List UInt8)×List (Lit×DataW Unit))(p:Nat):Bad (enJ bs lim rd a p):=fun en pl h=>by
 unfold enJ at h;split at h
 ·next e he=>injection h with h;subst h;exact qre _ _ _ _ en pl he
 split at h
 ·next e he=>injection h with h;subst h;exact qdH _ _ _ _ en pl he
 split at h
 ·next e he=>injection h with h;subst h;exact qbW _ _ _ _ en pl he
 split at h
 ·next e he=>injection h with h;subst h;exact qdH _ _ _ _ en pl he
 split at h
 ·next e he=>injection h with h;subst h;exact hrd _ en pl he
 cases h
theorem qq0 {depth:Int}{wi:Nat}{nm:UInt8→Nat→Except (Int×Int) (Int×Nat)}{c:UInt8}{p:Nat}(hrd:¬(wi:Int)=depth→∀p,Bad (rd p))(hnm:∀c p,Bad (nm c p)):Bad (qqi bs lim depth wi rd nm c p):=fun en pl h=>by
 unfold qqi at h;split at h
 ·split at h
  ·next e he=>injection h with h;subst h;exact qbW _ _ _ _ en pl he
  cases h
 split at h
 ·split at h
  ·next e he=>injection h with h;subst h;exact qbW _ _ _ _ en pl he
  cases h
 split at h
 ·split at h
  ·next e he=>injection h with h;subst h;exact qbW _ _ _ _ en pl he
  cases h
 split at h
 ·split at h
  ·next e he=>injection h with h;subst h;exact qf3 _ _ _ _ _ _ en pl he
  cases h
 split at h
 ·split at h
  ·injection h with h;injection h with h1 h2;omega
  next hn =>
  split at h
  ·next e he=>injection h with h;subst h;exact qlH (qtS (hrd hn)) _ _ en pl he
  cases h
 split at h
 ·split at h
  ·injection h with h;injection h with h1 h2;omega
  next hn =>
  split at h
  ·next e he=>injection h with h;subst h;exact qlH (quB (hrd hn)) _ _ en pl he
  cases h
 split at h
 ·split at h
  ·next e he=>injection h with h;subst h;exact hnm _ _ en pl he
  cases h
 injection h with h;injection h with h1 h2;omega
theorem qnJ (bs:List UInt8)(lim depth:Int)(nm:UInt8→Nat→Except (Int×Int) (Int×Nat))(hnm:∀c p,Bad (nm c p)):∀(g wi p:Nat),(wi:Int)≤depth→depth<wi+g→Bad (thJ bs lim depth nm g wi p)
 |0,wi,p,h1,h2,_,_,_=>by omega
 |g+1,wi,p,h1,h2,en,pl,h=>by
  rw[thJ] at h;split at h
  ·injection h with h;injection h with h3 h4;omega
  split at h
  ·injection h with h;injection h with h3 h4;omega
  exact qq0 (fun hn q=>qnJ bs lim depth nm hnm g (wi+1) q (by omega) (by omega)) hnm en pl h
theorem qti (fm:Int)(bs:List UInt8)(d l:Int)(p:Nat)(hd:0≤d):Bad (thO fm bs d l p):=fun en pl h=>by
 unfold thO at h;split at h
 ·exact qnJ _ _ _ _ (fun c p=>qqA _ _) _ _ _ (by simpa using hd) (by omega) en pl h
 split at h
 ·exact qlo _ _ _ _ _ _ _ (by simpa using hd) (by omega) en pl h
 exact qlo _ _ _ _ _ _ _ (by simpa using hd) (by omega) en pl h
theorem qlS (fm:Int)(bs:List UInt8)(d l:Int)(hd:0≤d):Bad (qgE fm bs d l):=fun en pl h=>by
 have hsp:∀p,Bad (spO fm bs l p):=fun p en pl h=>by
  unfold spO at h;split at h
  ·exact qdH _ _ _ _ en pl h
  cases h
 unfold qgE qnZ at h;split at h
 ·next e he=>injection h with h;subst h;exact hsp _ en pl he
 split at h
 ·next e he=>injection h with h;subst h;exact qti fm bs d l _ hd en pl he
 split at h
 ·next e he=>injection h with h;subst h;exact hsp _ en pl he
 split at h
 ·next e he =>
  injection h with h;subst h;unfold qqn at he;split at he
  ·cases he
  split at he<;>(injection he with he;injection he with h1 h2;omega)
 cases h
end
section
open Go.RowKit Go.Lib
theorem q1q {P:Program}{ty:TypeId}(h:fn.results=#[.tmp u,.tmp u2,.cell p ty])(tmps:Array Value)(w:World)(g:Nat)(t:TypeId)(cs:Array Value)(fr:Nat×Nat)(d:TypeDesc)(hp:tmps.getD p undef=.pointer (some ⟨g,0,none⟩))(hg:w.heap[g]? = some (.cells cs t fr))(hu:P.underlying ty=some d)(hd:(match d with|.struct _|.array _ _=>true|_=>false)=true)(hi:(P.info? ty).map (·.size)=some cs.size)(v v2:Value)(hv:tmps.getD u undef=v)(hv2:tmps.getD u2 undef=v2):(results fn tmps).run P w=.ok (.tuple #[v,v2,.agg cs]) w:=by
 have e:(results fn tmps).run P w=((asAddr (tmps.getD p undef)).run P w).andThen fun a w₁=>((loadVar ty a).run P w₁).andThen fun v w₂=>.ok (.tuple #[tmps.getD u undef,tmps.getD u2 undef,v]) w₂:=by
  simp only[results,h];simp[Sem.run_bind,Result.andThen]
 subst hv hv2;rw[e,hp];simp only[asAddr,Sem.run_pure,Result.andThen_ok,run_loadVar_row w g t ty cs fr d hg hu hd hi]
theorem q7d {tmps:Array Value}(h:fn.results=#[.tmp u,.tmp u2,.cell p 95])(hg:w.heap[g]? = some (.cells (qqp F) 95))(v v2:Value)(hp:tmps.getD p undef=.pointer (some ⟨g,0,none⟩))(hv:tmps.getD u undef=v)(hv2:tmps.getD u2 undef=v2):(results fn tmps).run prog w=.ok (.tuple #[v,v2,.agg (qqp F)]) w :=
 q1q h _ _ g _ _ _ _ hp hg underlying95 rfl (qyj _) v v2 hv hv2
theorem qzl {A:Act}{R:Ending→World→Prop}{B:Prop}(h:fn.results=#[.tmp u,.tmp u2,.cell p 95])(hf:w.heap[g]? = some (.cells (qqp F) 95)∧B)(v v2:Value)(hp:A.tmps.getD p undef=.pointer (some ⟨g,0,none⟩))(hv:A.tmps.getD u undef=v)(hv2:A.tmps.getD u2 undef=v2)(hd:A.defers=[])(k:R (.returned (.tuple #[v,v2,.agg (qqp F)])) w):bodyPost prog fn R .ret A w:=bodyPost_ret (q7d h hf.1 v v2 hp hv hv2) hd k
structure q0q (W:World)(A:Array Value)(M:Nat)(f:Int×Int)(V:World):Prop where
 box:V.heap[W.heap.size]? = some (.cells A 143)
 flt:V.heap[W.heap.size+1]? = some (.cells (qqp (0,0)) 95)
 loc:V.heap[M]? = some (.cells (qqp f) 95)
 below:Below W.heap.size W V
 lt:W.heap.size+1<M
theorem q0q.next {V':World}(h:q0q W A M f V)(hb:Below V.heap.size V V'):q0q W A M f V' :=
 ⟨(hb.block _ (ltA h.box)).trans h.box,(hb.block _ (ltA h.flt)).trans h.flt,(hb.block _ (ltA h.loc)).trans h.loc,h.below.trans (hb.mono h.below.size),h.lt⟩
theorem q0q.drew (h:q0q W A M f V):q0q W A M f V.drew:=⟨h.box,h.flt,h.loc,h.below.drew,h.lt⟩
theorem q0q.put (h:q0q W A M f V)(g:Int×Int):q0q W A M g (V.setRow M (qqp g)):=by
 have h1:=h.lt;exact⟨sx (by omega) h.box,sx (by omega) h.flt,setRow_heap _ _ _ _ _ _ h.loc,qah h.below (by omega) _,h.lt⟩
theorem q5v (h:RIn W A (W.heap.size+1) V)(g:Int×Int):q0q W A V.heap.size g ((V.alloc (.cells (qqp (0,0)) 95)).setRow V.heap.size (qqp g)):=by
 have h1:=ltA h.flt;have h2:q0q W A V.heap.size (0,0) (V.alloc (.cells (qqp (0,0)) 95)) :=
  ⟨(Below.heap_alloc _ _ _ (by omega)).trans h.box,(Below.heap_alloc _ _ _ h1).trans h.flt,qac _ _,h.below.alloc (by omega) _,h1⟩
 exact h2.put g
theorem q0q.fin (h:q0q W A M f V)(g:Int×Int):(V.setRow (W.heap.size+1) (qqp g)).heap[W.heap.size+1]? = some (.cells (qqp g) 95)∧Below W.heap.size W (V.setRow (W.heap.size+1) (qqp g))∧(V.setRow (W.heap.size+1) (qqp g)).heap[M]? = some (.cells (qqp f) 95) :=
 ⟨setRow_heap _ _ _ _ _ _ h.flt,qah h.below (by omega) _,(setRow_other _ _ _ _ (by have:=h.lt;omega)).trans h.loc⟩
theorem qzu:∀(k p a x q:Nat),InR bs lim p→qgA bs lim k p a=.ok (x,q)→q=p+k∧InR bs lim q∧x<(a+1)*16^k
 |0,p,a,x,q,hi,h=>by
  rw[qgA] at h;injection h with h;injection h with h1 h2;subst h1 h2;exact⟨rfl,hi,by omega⟩
 |k+1,p,a,x,q,hi,h=>by
  rw[qgA] at h
  cases hc:bs[p]? with
  |none=>rw[hc] at h;cases h
  |some c =>
   rw[hc] at h;simp only[] at h;by_cases hp:(p:Int)=lim
   ·rw[if_pos hp] at h;cases h
   rw[if_neg hp] at h
   cases hv:qqh c with
   |none=>rw[hv] at h;cases h
   |some dn =>
    rw[hv] at h;obtain⟨a1,a2,a3⟩:=qzu k (p+1) (a*16+dn) x q (qxJ hi hc hp) h;have hd:=qnW hv;refine⟨by omega,a2,Nat.lt_of_lt_of_le a3 ?_⟩;rw[Nat.pow_succ,Nat.mul_comm (16^k) 16,←Nat.mul_assoc];exact Nat.mul_le_mul_right _ (by omega)
theorem qyJ:∀(w:List UInt8) (p q:Nat),InR bs lim p→qaT bs lim w p=.ok ((),q)→q=p+w.length∧InR bs lim q
 |[],p,q,hi,h=>by
  rw[qaT] at h;injection h with h;injection h with _ h2;subst h2;exact⟨rfl,hi⟩
 |x::w,p,q,hi,h=>by
  rw[qaT] at h
  cases hc:bs[p]? with
  |none=>rw[hc] at h;cases h
  |some c =>
   rw[hc] at h;simp only[] at h;by_cases hp:(p:Int)=lim
   ·rw[if_pos hp] at h;cases h
   rw[if_neg hp] at h;by_cases hx:c=x
   ·rw[if_pos hx] at h;obtain⟨a1,a2⟩:=qyJ w (p+1) q (qxJ hi hc hp) h;exact⟨by rw[List.length_cons];omega,a2⟩
   rw[if_neg hx] at h;cases h
theorem q1n {p:Nat}(hl:Lm bs l lim)(hi:InR bs lim (p+1))(e:Int):qr0 bs l p e=(e,(p:Int)):=by
 have h1:=hi.1;have h2:=hi.2;have h3:=hl p (by omega);unfold qr0;rw[if_neg (by omega),if_neg (by omega)]
theorem q2h {N:Nat}(h:Own W' b v bs)(hb:N<b):v.ownBlock≠some N:=fun e=>by have:=qbA h.1 e;omega
theorem q1i {b':Nat}(h:Own W' b v bs)(hb:b'≤b):Own W' b' v bs:=by
 obtain⟨⟨h1,h2⟩,h3,h4⟩:=h;refine⟨⟨h1,?_⟩,by omega,h4⟩;rcases h2 with h2|⟨g,cap,cur,a,b,c⟩
 ·exact .inl h2
 exact .inr ⟨g,cap,cur,a,by omega,c⟩
theorem q2f (h:Own W' b v bs)(N:Nat)(cs:Array Value)(hN:v.ownBlock≠some N):Own (W'.setRow N cs) b v bs:=by
 obtain⟨⟨h1,h2⟩,h3,h4⟩:=h;refine⟨⟨h1,?_⟩,by simpa using h3,h4⟩;rcases h2 with h2|⟨g,cap,cur,a,b,c,d⟩
 ·exact .inl h2
 refine .inr ⟨g,cap,cur,a,b,(setRow_other _ _ _ _ (fun e=>hN ?_)).trans c,d⟩;rw[a,←e];rfl
def q17 (W:World)(r:Except (Int×Int) (Int×Nat))(e:Ending)(W':World):Prop:=match r with
 |.ok (x,q)=>∃v,e=.returned (.tuple #[v,.int .i64 q,.agg (qqp (0,0))])∧Own W' W.heap.size v (qcD x)
 |.error f=>e=.returned (.tuple #[.slice none 0 0,.int .i64 0,.agg (qqp f)])
theorem q0q.ck {f:FuncId}{args:Array Value}{r:Ending}{Q:Ending→World→Prop}{x:Int×Int}(h:q0q W (inA bs fm d l) M x V)(c:Calls prog f args V fun e W'=>e=r∧Below V.heap.size V W')(k:∀w,Hid (q0q W (inA bs fm d l) M x w)→w.cell? ⟨W.heap.size,0,none⟩=(#[.string ⟨bs.toArray⟩,.int .i64 fm,.int .i64 d,.int .i64 l]:Array Value)[0]?→w.cell? ⟨W.heap.size,1,none⟩=(#[.string ⟨bs.toArray⟩,.int .i64 fm,.int .i64 d,.int .i64 l]:Array Value)[1]?→w.cell? ⟨W.heap.size,2,none⟩=(#[.string ⟨bs.toArray⟩,.int .i64 fm,.int .i64 d,.int .i64 l]:Array Value)[2]?→w.cell? ⟨W.heap.size,3,none⟩=(#[.string ⟨bs.toArray⟩,.int .i64 fm,.int .i64 d,.int .i64 l]:Array Value)[3]?→w.cell? ⟨M,0,none⟩=some (.int .i64 x.1)→Q r w):Calls prog f args V Q :=
 _root_.Go.Proofs.YtllcbnfmihfaaaaGreatDoor.ck c h.next fun w H=>k w H (qyf H.out.box).1 (qyf H.out.box).2.1 (qyf H.out.box).2.2.1 (qyf H.out.box).2.2.2 (qab H.out.loc 0)
theorem q0q.st {ops:Array Oper}{rest:List Oper}{o:Oper}{a:Act}{Q:Exit→Act→World→Prop}(h:q0q W (inA bs fm d l) M (0,0) V)(x y:Nat)(hgd:o.guard=none)(ho:o.op=.store 95 (.tmp x) (.tmp y))(F:Int×Int)(hh:a.eval (.tmp x)=.pointer (some ⟨M,0,none⟩)∧a.eval (.tmp y)=.agg (qqp F))(k:∀w,Hid (q0q W (inA bs fm d l) M F w)→w.cell? ⟨W.heap.size,0,none⟩=(#[.string ⟨bs.toArray⟩,.int .i64 fm,.int .i64 d,.int .i64 l]:Array Value)[0]?→w.cell? ⟨W.heap.size,1,none⟩=(#[.string ⟨bs.toArray⟩,.int .i64 fm,.int .i64 d,.int .i64 l]:Array Value)[1]?→w.cell? ⟨W.heap.size,2,none⟩=(#[.string ⟨bs.toArray⟩,.int .i64 fm,.int .i64 d,.int .i64 l]:Array Value)[2]?→w.cell? ⟨W.heap.size,3,none⟩=(#[.string ⟨bs.toArray⟩,.int .i64 fm,.int .i64 d,.int .i64 l]:Array Value)[3]?→w.cell? ⟨M,0,none⟩=some (.int .i64 F.1)→wpList prog ops Q rest (a.put o.dst undef) w):wpList prog ops Q (o::rest) a V :=
 stF x y hgd ho M F hh.1 hh.2 h.loc (k _ (h.put F) (qyf (h.put F).box).1 (qyf (h.put F).box).2.1 (qyf (h.put F).box).2.2.1 (qyf (h.put F).box).2.2.2 (qab (h.put F).loc 0))
def HxC (bs:List UInt8)(fm d l:Int)(i x:Int)(F:Int×Int):Prop:=∀V,Calls prog 245 #[.agg #[.string ⟨bs.toArray⟩,.int .i64 fm,.int .i64 d,.int .i64 l],.int .i64 i] V fun e W'=>e=.returned (.tuple #[.int .i64 x,.agg (qqp F)])∧Below V.heap.size V W'
def WdC (bs:List UInt8)(fm d l:Int)(i x:Int)(F:Int×Int):Prop:=∀V,Calls prog 170 #[.agg #[.string ⟨bs.toArray⟩,.int .i64 fm,.int .i64 d,.int .i64 l],.int .i64 i,.string ⟨#[92,117]⟩] V fun e W'=>e=.returned (.tuple #[.int .i64 x,.agg (qqp F)])∧Below V.heap.size V W'
def BdC (bs:List UInt8)(fm d l:Int)(i:Int)(F:Int×Int):Prop:=∀V,Calls prog 71 #[.agg #[.string ⟨bs.toArray⟩,.int .i64 fm,.int .i64 d,.int .i64 l],.int .i64 i,.int .i64 9] V fun e W'=>e=.returned (.agg (qqp F))∧Below V.heap.size V W'
def UtC (x:Int):Prop:=∀V,Calls prog 246 #[.int .i64 x] V fun e W'=>∃v,e=.returned v∧Own W' V.heap.size v (qcD x)∧Below V.heap.size V W'
theorem q5m (W:World)(bs:List UInt8)(fm d l:Int)(i:Nat)(hil:i≤bs.length)(hb:bs.length≤200000000)(R:Except (Int×Int) (Int×Nat))(x y:Int)(F:Int×Int)(hx0:0≤x)(hx5:x<65536)(hy0:0≤y)(hy5:y<65536)(hw:(HxC bs fm d l i 0 F∧(F.1==0)=false∧R=.error F)∨(HxC bs fm d l i x (0,0)∧55296≤x∧x<56320∧WdC bs fm d l ((i:Int)+4) 0 F∧(F.1==0)=false∧R=.error F)∨(HxC bs fm d l i x (0,0)∧55296≤x∧x<56320∧WdC bs fm d l ((i:Int)+4) ((i:Int)+6) (0,0)∧HxC bs fm d l ((i:Int)+6) 0 F∧(F.1==0)=false∧R=.error F)∨(HxC bs fm d l i x (0,0)∧56320≤x∧x≤57343∧BdC bs fm d l ((i:Int)+3) F∧R=.error F)∨(HxC bs fm d l i x (0,0)∧55296≤x∧x<56320∧WdC bs fm d l ((i:Int)+4) ((i:Int)+6) (0,0)∧HxC bs fm d l ((i:Int)+6) y (0,0)∧(y<56320∨57343<y)∧BdC bs fm d l ((i:Int)+6+3) F∧R=.error F)∨(HxC bs fm d l i x (0,0)∧(x<55296∨57343<x)∧UtC x∧F=(0,0)∧R=.ok (x,i+4))∨(HxC bs fm d l i x (0,0)∧55296≤x∧x<56320∧WdC bs fm d l ((i:Int)+4) ((i:Int)+6) (0,0)∧HxC bs fm d l ((i:Int)+6) y (0,0)∧56320≤y∧y≤57343∧UtC (65536+(x-55296)*1024+y-56320)∧F=(0,0)∧R=.ok (65536+(x-55296)*1024+y-56320,i+10))):Calls prog 230 #[.agg (inA bs fm d l),.int .i64 i] W fun e W'=>q17 W R e W'∧Below W.heap.size W W':=by
 have HX:=q00 W bs fm d l;have dn:∀{p:Prop} [Decidable p],¬p→Hid (decide p=false):=fun h=>decide_eq_false h;have dy:∀{p:Prop} [Decidable p],p→Hid (decide p=true):=fun h=>decide_eq_true h;unfold inA;rcases hw with ⟨cX,hne,rfl⟩|⟨cX,h1,h2,cW,hne,rfl⟩|⟨cX,h1,h2,cW,cY,hne,rfl⟩|⟨cX,h1,h2,cB,rfl⟩|⟨cX,h1,h2,cW,cY,h3|h3,cB,rfl⟩|⟨cX,h1|h1,cU,rfl,rfl⟩|⟨cX,h1,h2,cW,cY,h3,h4,cU,rfl,rfl⟩
 let b:Nat:=20;rotate_left
 let b:Nat:=48;rotate_left
 let b:Nat:=58;rotate_left
 rotate_left 6
 all_goals
  unfold HxC at *
  try unfold WdC at *
  try unfold BdC at *
  try unfold UtC at *
  try have d1:=(dn (p:=x<55296) (by omega)).out
  try have d2:=(dn (p:=57343<x) (by omega)).out
  try have d3:=(dn (p:=56320≤x) (by omega)).out
  try have D1:=dn (p:=y<56320) (by omega)
  try have D1:=dy (p:=y<56320) (by omega)
  try have D2:=dn (p:=57343<y) (by omega)
  try have D2:=dy (p:=57343<y) (by omega)
  clear dn dy;go_enter func230,ntmps230
  go_wp2_with (first
   |(go_at_call 245;refine ckB (cX _) HX.out.next ?_;clear cX;intro w2 hB2 HX2;obtain⟨c0,c1,c2,c3⟩:=qyf HX2.out.box)
   |(go_at_call 170;refine HU.out.ck (cW _) ?_;clear cW d1 d2 d3 c0 c1 c2 c3 u0 HU;intro w3 HU c0 c1 c2 c3 u0)
   |(go_at_call 245;refine HU.out.ck (cY _) ?_;clear cY c0 c1 c2 c3 u0 HU;intro w4 HU c0 c1 c2 c3 u0)
   |(go_at_call 71;refine HU.out.ck (cB _) ?_;clear cB c0 c1 c2 c3 u0 HU;intro w5 HU c0 c1 c2 c3 u0)
   |(go_at_call 246;refine(cU _).mono ?_;clear cU c0 c1 c2 c3 u0;rintro e w5 ⟨v,rfl,hO,hB5⟩;obtain⟨va,vn,vc,rfl⟩:=hO.2.2;have HO:Hid (Own w5 W.heap.size (.slice va vn vc) _):=q1i hO HU.out.below.size;have HNE:Hid ((Value.slice va vn vc).ownBlock≠some (W.heap.size+1)):=q2h hO (ltA HU.out.flt);clear hO;have HU:=qaa (HU.out.next hB5))
   |((first|((with_reducible refine stF 8 16 rfl rfl (w2.heap.size) (0,0) ?_ ?_ ?_ ?_);exact rfl;exact rfl;exact qac w2 _;refine nmd ?_;intro V2 EV2;have HU:Hid (q0q W (inA bs fm d l) w2.heap.size (0,0) V2):=EV2▸q5v HX2.out _;clear EV2)|((with_reducible refine stF 8 16 rfl rfl (w2.heap.size) F ?_ ?_ ?_ ?_);exact rfl;exact rfl;exact qac w2 _;refine nmd ?_;intro V2 EV2;have HU:Hid (q0q W (inA bs fm d l) w2.heap.size F V2):=EV2▸q5v HX2.out _;clear EV2));generalize w2.heap.size=M at *;clear c0 c1 c2 c3 hB2 HX2;have u0:=qab HU.out.loc 0;unfold qqp at u0;obtain⟨c0,c1,c2,c3⟩:=qyf HU.out.box)
   |((with_reducible refine HU.out.st 8 _ rfl rfl (0,0) ?_ ?_);exact⟨rfl,rfl⟩;clear c0 c1 c2 c3 u0 HU;intro V3 HU c0 c1 c2 c3 u0;try (have e1:=D1.out;have e2:=D2.out))
   |((with_reducible refine HU.out.st 8 _ rfl rfl F ?_ ?_);exact⟨rfl,rfl⟩;clear c0 c1 c2 c3 u0 HU;intro V3 HU c0 c1 c2 c3 u0)
   |((with_reducible refine stF 6 _ rfl rfl (W.heap.size+1) F ?_ ?_ ?_ ?_);exact rfl;exact rfl;exact HU.out.flt)
   |((with_reducible refine stF 6 _ rfl rfl (W.heap.size+1) (0,0) ?_ ?_ ?_ ?_);exact rfl;exact rfl;exact HU.out.flt))
  try exact qzl results230 (HU.out.fin _) (.slice none 0 0) (.int .i64 0) rfl rfl rfl rfl ⟨rfl,(HU.out.fin _).2.1⟩
  try exact qzl results230 (HU.out.fin _) (.slice va vn vc) _ rfl rfl rfl rfl ⟨⟨_,by congr 4,q2f HO.out _ _ HNE.out⟩,(HU.out.fin _).2.1⟩
 all_goals
  refine rgn (S:=fun Z=>Z.heap[M]? = some (.cells (qqp F) 95)) (HU.out.loc) (by kernel_rfl) ?_;intro hS;refine tkk 1 4 (.slice none 0 0) (by kernel_rfl) iQ3 hS ?_;refine tkk 2 5 (.int .i64 0) (by kernel_rfl) iQ3 hS ?_;refine tk 0 b (.agg (qqp F)) rfl (by kernel_rfl) iQ3 (fun Z hZ=>yF 8 hZ rfl rfl) hS ?_;refine rdH 3 rfl (by kernel_rfl) (fun K hK => ?_);rw[if_pos (by kernel_rfl)];refine wp_store_row 95 _ _ rfl (W.heap.size+1) (qqp F) rfl rfl 95 (qqp (0,0)) HU.out.drew.flt (qyj _) rfl (qy7 _) ?_;refine hK.out _ _ (HU.out.drew.fin F).2.2 (fun _ => ?_);clear hK;refine wpAnyH_done (by kernel_rfl) ?_ _;dsimp only [b];go_simp;clear c0 c1 c2 c3 u0;go_wp2;exact qzl results230 (HU.out.drew.fin F) _ _ rfl rfl rfl rfl ⟨rfl,(HU.out.drew.fin F).2.1⟩
end
end Go.Proofs.YtllcbnfmihfaaaaGreatDoor
