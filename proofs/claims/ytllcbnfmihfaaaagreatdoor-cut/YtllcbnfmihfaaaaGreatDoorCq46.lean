import Derived.Test.YtllcbnfmihfaaaaGreatDoorCq44
import Derived.Test.YtllcbnfmihfaaaaGreatDoorCq41
import Derived.Test.YtllcbnfmihfaaaaGreatDoorCq45
set_option maxRecDepth 100000
set_option maxHeartbeats 8000000
namespace Go.Proofs.YtllcbnfmihfaaaaGreatDoor
open Go.Proofs.Tryz
variable {V:World}{F:Nat→Prop}
section
open Go.RowKit Go.Lib
def wrO (fm:Int)(k:Nat)(d:DataW Unit):List UInt8:=if fm=1 then qbd k d else if fm=2 then qaU k d else qcV k d
theorem qrz (key:Int)(label:Nat)(l:List UInt8):(qs5 key label l).length=16:=qq2 _ (qoH _ _ (qkj _ _))
theorem qhN (x:Nat):∀k,(beF x k).length=k
 |0=>rfl
 |k+1=>by unfold beF;rw[List.length_cons,qhN x k]
theorem qgh (s x:Nat):(qaj s x).length≤9:=by
 unfold qaj
 repeat' split
 all_goals simp[qhN]
theorem qcZ (x:Nat):(qb8 x).length≤9∧(qbB x).length≤9∧(qb2 x).length≤9∧(qa2 x).length≤9∧(qbf x).length≤9:=by
 unfold qb8 qbB qb2 qa2 qbf;refine⟨?_,?_,?_,?_,?_⟩
 all_goals repeat' split
 all_goals simp[qhN]
theorem qo6 (z:Int):(qid z).length≤9:=by
 unfold qid;split
 ·unfold qbo
  repeat' split
  all_goals simp[qhN]
 exact(qcZ _).2.2.2.2
theorem qwC (z:Int):(qhB z).length≤9:=by
 unfold qhB;split<;>exact qgh _ _
theorem qhD {α:Type}(f:α→List UInt8)(m:α→Nat):∀(l:List α),(∀a,a∈l→(f a).length≤m a)→(l.flatMap f).length≤(l.map m).sum
 |[],_=>Nat.le_refl _
 |a::l,h=>by
  have h1:=h a (List.mem_cons_self ..);have h2:=qhD f m l fun b hb=>h b (List.mem_cons_of_mem _ hb);rw[List.flatMap_cons,List.length_append,List.map_cons,List.sum_cons];omega
theorem qi3 (hB hL hM hT:Nat→List UInt8)(nt:Bool→List UInt8)(no:List UInt8)(nm:Int→List UInt8)(h:∀x,(hB x).length≤9∧(hL x).length≤9∧(hM x).length≤9∧(hT x).length≤9)(h1:∀b,(nt b).length≤9)(h2:no.length≤9)(h3:∀z,(nm z).length≤9):∀(k:Nat) (d:DataW Unit),(wrF hB hL hM hT nt no nm k d).length≤szF k d
 |0,_=>Nat.le_refl _
 |k+1,d=>by
  unfold wrF;split
  ·show _≤200;omega
  ·show _≤200;have:=h1 ‹Bool›;omega
  ·show _≤200;have:=h3 ‹Int›;omega
  ·next l=>show _≤200+6*l.length;have:=h l.length;rw[List.length_append];omega
  ·next l=>show _≤200+6*l.length;have:=h l.length;rw[List.length_append];omega
  ·next ds =>
   show _≤200+(ds.map fun d=>30+szF k d).sum;have h4:=h ds.length;have h5:=qhD (wrF hB hL hM hT nt no nm k) (fun d=>30+szF k d) ds (fun d _=>Nat.le_trans (qi3 hB hL hM hT nt no nm h h1 h2 h3 k d) (Nat.le_add_left _ _));rw[List.length_append];omega
  ·next es =>
   show _≤200+(es.map fun e=>100+6*(qb7 e.1).length+szF k e.2).sum;have h4:=h es.length;have h5:=qhD (fun e:Lit×DataW Unit=>(hT (qb7 e.1).length++qb7 e.1)++wrF hB hL hM hT nt no nm k e.2) (fun e=>100+6*(qb7 e.1).length+szF k e.2) es (fun e _=>by
    have h6:=qi3 hB hL hM hT nt no nm h h1 h2 h3 k e.2;have h7:=h (qb7 e.1).length;rw[List.length_append,List.length_append];omega)
   rw[List.length_append];omega
  exact Nat.zero_le _
theorem qjz (k:Nat)(d:DataW Unit):(qaU k d).length≤szF k d :=
 qi3 _ _ _ _ _ _ _ (fun x=>⟨qgh _ _,qgh _ _,qgh _ _,qgh _ _⟩) (fun b=>by unfold qs1;cases b<;>exact qgh _ _) (qgh _ _) qwC k d
theorem qpp (k:Nat)(d:DataW Unit):(qcV k d).length≤szF k d :=
 qi3 _ _ _ _ _ _ _ (fun x=>⟨(qcZ x).1,(qcZ x).2.1,(qcZ x).2.2.1,(qcZ x).2.2.2.1⟩) (fun b=>by unfold qsB;cases b<;>decide) (by decide) qo6 k d
theorem qsS (r:Nat):(qmw r).length≤6:=by
 unfold qmw;split
 ·simp
 split
 ·simp
 exact Nat.le_trans (qcg _).2 (by omega)
theorem qjR:∀(g:Nat) (l:List UInt8),(qd5 g l).length≤6*g
 |0,_=>Nat.le_refl _
 |g+1,[]=>Nat.zero_le _
 |g+1,b::t=>by
  unfold qd5;have h1:=qsS (decodeL (b::t)).1;have h2:=qjR g ((b::t).drop (decodeL (b::t)).2);rw[List.length_append];omega
theorem qpq (l:List UInt8):(jsT l).length≤2+6*l.length:=by
 unfold jsT;have:=qjR l.length l;simp only[List.length_append,List.length_cons,List.length_nil];omega
theorem qnL {α:Type}(T:α→List UInt8)(m:α→Nat)(l:List α)(h:∀a,a∈l→(T a).length+1≤m a):(qc5 T l).length≤(l.map m).sum:=by
 cases l with
 |nil=>exact Nat.le_refl _
 |cons a l =>
  unfold qc5;have h1:=h a (List.mem_cons_self ..);have h2:=qhD (fun e=>44::T e) m l (fun b hb=>by have:=h b (List.mem_cons_of_mem _ hb);rw[List.length_cons];exact this);rw[List.length_append,List.map_cons,List.sum_cons];omega
theorem qkK:∀(k:Nat) (d:DataW Unit),30*ndF k d≤szF k d
 |0,_=>Nat.le_refl _
 |k+1,d=>by
  unfold ndF szF;split
  ·next ds =>
   have h5:30*(ds.map fun d=>1+ndF k d).sum≤(ds.map fun d=>30+szF k d).sum:=by
    induction ds with
    |nil=>exact Nat.le_refl _
    |cons a l ih =>
     have:=qkK k a;rw[List.map_cons,List.sum_cons,List.map_cons,List.sum_cons];omega
   simp only[];omega
  ·next es =>
   have h5:30*(es.map fun e=>2+ndF k e.2).sum≤(es.map fun e=>100+6*(qb7 e.1).length+szF k e.2).sum:=by
    induction es with
    |nil=>exact Nat.le_refl _
    |cons a l ih =>
     have:=qkK k a.2;rw[List.map_cons,List.sum_cons,List.map_cons,List.sum_cons];omega
   simp only[];omega
  split<;>omega
theorem qtD (k:Nat)(d:DataW Unit):200≤szF (k+1) d:=by
 unfold szF;split<;>omega
theorem qw3 (k:Nat)(f:DataW Unit→Rep→Option (DataW Unit)×Rep)(hf:∀d R d',(f d R).1=some d'→szF k d'≤2*szF k d)(ds:List (DataW Unit)):∀(a:List (DataW Unit)×Rep),sqL k (ds.foldl (fun a d=>(a.1++(f d a.2).1.toList,(f d a.2).2)) a).1≤sqL k a.1+2*sqL k ds:=by
 induction ds with
 |nil=>intro a;exact Nat.le_add_right _ _
 |cons d ds ih =>
  intro a;rw[List.foldl_cons];refine Nat.le_trans (ih _) ?_;have e:sqL k (d::ds)=30+szF k d+sqL k ds:=by unfold sqL;rw[List.map_cons,List.sum_cons]
  rw[e];dsimp only
  cases h:(f d a.2).1 with
  |none=>rw[Option.toList_none,List.append_nil];omega
  |some d' =>
   have:=hf d a.2 d' h;rw[Option.toList_some,qiB];omega
theorem qvN (k:Nat)(f:List UInt8→DataW Unit→Rep→Option (DataW Unit)×Rep)(hf:∀l d R d',(f l d R).1=some d'→szF k d'≤2*szF k d)(es:List (Lit×DataW Unit)):∀(a:List (Lit×DataW Unit)×Rep),sqE k (es.foldl (fun a e=>(a.1++((f (qb7 e.1) e.2 a.2).1.map fun d=>(e.1,d)).toList,(f (qb7 e.1) e.2 a.2).2)) a).1≤sqE k a.1+2*sqE k es:=by
 induction es with
 |nil=>intro a;exact Nat.le_add_right _ _
 |cons d ds ih =>
  intro a;rw[List.foldl_cons];refine Nat.le_trans (ih _) ?_;have e:sqE k (d::ds)=100+6*(qb7 d.1).length+szF k d.2+sqE k ds:=by unfold sqE;rw[List.map_cons,List.sum_cons]
  rw[e];dsimp only
  cases h:(f (qb7 d.1) d.2 a.2).1 with
  |none=>rw[Option.map_none,Option.toList_none,List.append_nil];omega
  |some d' =>
   have:=hf (qb7 d.1) d.2 a.2 d' h;have e2:sqE k (a.1++[(d.1,d')])=sqE k a.1+(100+6*(qb7 d.1).length+szF k d'):=by unfold sqE;simp
   rw[Option.map_some,Option.toList_some,e2];omega
theorem qnT (c:Rv):∀(k:Nat) (p:List (List UInt8×Bool)) (d:DataW Unit) (R:Rep) (d':DataW Unit),(rwF c k p d R).1=some d'→szF k d'≤2*szF k d
 |0,_,_,_,_,h=>by cases h
 |k+1,p,d,R,d',h=>by
  have hp:=qtD k d;unfold rwF at h;split at h
  ·injection h with h;subst h;unfold shF;split
   ·next ds =>
    have h1:=qw3 k (rwF c k (([],true)::p)) (fun d R d'=>qnT c k _ d R d') ds ([],(R.1+1,R.2));have e:sqL k ([]:List (DataW Unit))=0:=rfl;show 200+sqL k (rwL _ ds _).1≤2*(200+sqL k ds);unfold rwL;dsimp only at h1;omega
   ·next es =>
    have h1:=qvN k (fun key=>rwF c k ((key,false)::p)) (fun l d R d'=>qnT c k _ d R d') es ([],(R.1+1,R.2));have e:sqE k ([]:List (Lit×DataW Unit))=0:=rfl;show 200+sqE k (rwE _ es _).1≤2*(200+sqE k es);unfold rwE;dsimp only at h1 ⊢;omega
   dsimp only;omega
  split at h
  ·injection h with h;subst h;show 200+6*3≤_;omega
  split at h
  ·injection h with h;subst h;have:=qrz c.key (lbF c.dflt c.rs p.reverse).1.toNat (qaU (k+1) d);show 200+6*(qs5 _ _ _).length≤_;rw[this];omega
  cases h
theorem qvu (c:Rv)(k:Nat)(d:DataW Unit)(R:Rep):szF k ((rwF c k [] d R).1.getD .nil)≤2*szF k d+200:=by
 cases h:(rwF c k [] d R).1 with
 |none=>cases k with
  |zero=>exact Nat.zero_le _
  |succ k=>show 200≤_;omega
 |some d' =>
  have:=qnT c k [] d R d' h;show szF k d'≤_;omega
theorem qfS:∀{k:Nat} {v:Value} {d:DataW Unit},qai k V F v d→(qbd k d).length≤szF k d
 |0,_,_,h=>h.elim
 |k+1,v,d,h=>by
  unfold qai at h;unfold qbd;split at h
  ·show 4≤200;omega
  ·next b=>show(bif b then _ else _:List UInt8).length≤200;cases b<;>decide
  ·next z =>
   have:=itoa_length_le z h.2.1 h.2.2;show(itoa z).length≤200;omega
  ·next l =>
   have:=qpq l;show(jsT l).length≤200+6*l.length;omega
  ·next l =>
   show 4≤200+6*l.length;omega
  ·next ds =>
   obtain⟨u,xs,_,hr,ha⟩:=h;show(([91]++qc5 (qbd k) ds)++[93]).length≤200+sqL k ds;have h1:=qnL (qbd k) (fun d=>30+szF k d) ds (fun d hd=>by
    obtain⟨i,hi,rfl⟩:=List.mem_iff_getElem.1 hd;have hx:i<xs.length:=by have:=hr.1;omega
    have:=qfS (ha i xs[i] ds[i] (List.getElem?_eq_getElem hx) (List.getElem?_eq_getElem hi));omega)
   have e:sqL k ds=(ds.map fun d=>30+szF k d).sum:=rfl;simp only[List.length_append,List.length_cons,List.length_nil];omega
  ·next es =>
   obtain⟨u,xs,_,hr,ha⟩:=h;show(([123]++qc5 (qfn (qbd k)) es)++[125]).length≤200+sqE k es;have h1:=qnL (qfn (qbd k)) (fun e=>100+6*(qb7 e.1).length+szF k e.2) es (fun e he=>by
    obtain⟨i,hi,rfl⟩:=List.mem_iff_getElem.1 he;obtain⟨l,x,h1,_,_,h2⟩:=ha i es[i].1 es[i].2 (List.getElem?_eq_getElem hi);have h3:=qfS h2;have h4:=qpq (qb7 es[i].1);unfold qfn;simp only[List.length_append,List.length_cons,List.length_nil];omega)
   have e:sqE k es=(es.map fun e=>100+6*(qb7 e.1).length+szF k e.2).sum:=rfl;simp only[List.length_append,List.length_cons,List.length_nil];omega
  exact h.elim
theorem qpv (fm:Int){k:Nat}{v:Value}{d:DataW Unit}(h:qai k V F v d):(wrO fm k d).length≤szF k d:=by
 unfold wrO;split
 ·exact qfS h
 split
 ·exact qjz k d
 exact qpp k d
end
end Go.Proofs.YtllcbnfmihfaaaaGreatDoor
