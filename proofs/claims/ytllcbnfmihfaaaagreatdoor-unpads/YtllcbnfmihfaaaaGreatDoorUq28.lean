import Derived.Test.YtllcbnfmihfaaaaGreatDoorUq25
set_option maxRecDepth 100000
set_option maxHeartbeats 8000000
namespace Go.Proofs.YtllcbnfmihfaaaaGreatDoor
open Go.Proofs.Tryz
section
open Go.RowKit
theorem ql9 {P:Program}{ops:Array Oper}{Q:Exit→Act→World→Prop}{md:Region.Mode}{S:World→Prop}{fuel:Nat}{listed:Array Bool}{a:Act}{w:World}{o:Oper}{K':Act→World→Prop}(hK:Shut (∀a w,S w→(S w→wpAnyH P md ops Q S fuel listed a w)→K' a w))(hw:Region.wanted o (yielded ops a.tmps)=true)(ty:TypeId)(x y:Operand)(ho:o.op=.store ty x y)(hd:o.dst=none)(g:Nat)(cells:Array Value)(hx:a.eval x=.pointer (some ⟨g,0,none⟩))(hy:a.eval y=.agg cells)(t:TypeId)(old:Array Value)(hg:w.heap[g]? = some (.cells old t (0,0)))(hi:(P.info? ty).map (·.size)=some cells.size)(hold:old.size=cells.size)(h1:cells.all (·.oneCell')=true)(hS:S (w.setRow g cells))(h:wpAnyH P md ops Q S fuel listed a (w.setRow g cells)):if Region.wanted o (yielded ops a.tmps)=true then Oper.wp P o a w K' Q else K' (a.put o.dst undef) w:=by
 rw[if_pos hw]
 refine wp_store_row ty x y ho g cells hx hy t old hg hi hold h1 ?_
 rw[hd]
 exact hK _ _ hS (fun _=>h)
theorem qee {P:Program}{ops:Array Oper}{Q:Exit→Act→World→Prop}{md:Region.Mode}{S:World→Prop}{fuel:Nat}{listed:Array Bool}{a:Act}{w:World}{o:Oper}(i:Nat)(hr:Region.ready md ops listed=[i])(hi:ops[i]? = some o)(hw:Region.wanted o (yielded ops a.tmps)=true)(ty:TypeId)(x y:Operand)(ho:o.op=.store ty x y)(hd:o.dst=none)(g:Nat)(cells:Array Value)(hx:a.eval x=.pointer (some ⟨g,0,none⟩))(hy:a.eval y=.agg cells)(t:TypeId)(old:Array Value)(hg:w.heap[g]? = some (.cells old t (0,0)))(hz:(P.info? ty).map (·.size)=some cells.size)(hold:old.size=cells.size)(h1:cells.all (·.oneCell')=true)(hS:S (w.setRow g cells))(h:wpAnyH P md ops Q S fuel (listed.setIfInBounds i true) a (w.setRow g cells)):wpAnyH P md ops Q S (fuel+1) listed a w :=
 wpAnyH_ready hr (by simp) (AllReadyH.cons hi (fun _ hK=>ql9 hK hw ty x y ho hd g cells hx hy t old hg hz hold h1 hS h) AllReadyH.nil)
theorem sF {ops:Array Oper}{Q:Exit→Act→World→Prop}{md:Region.Mode}{S:World→Prop}{fuel:Nat}{listed:Array Bool}{a:Act}{w:World}(i x y g:Nat)(F:Int×Int)(hk:(Region.ready md ops listed,ops[i]?.map fun o=>(Region.wanted o (yielded ops a.tmps),o.op,o.dst),a.eval (.tmp x),a.eval (.tmp y))=([i],some (true,.store 95 (.tmp x) (.tmp y),none),.pointer (some ⟨g,0,none⟩),.agg (qae F)))(hg:w.heap[g]? = some (.cells (qae (0,0)) 95))(hS:S (w.setRow g (qae F)))(h:wpAnyH prog md ops Q S fuel (listed.setIfInBounds i true) a (w.setRow g (qae F))):wpAnyH prog md ops Q S (fuel+1) listed a w:=by
 obtain⟨h1,h2⟩:=Prod.mk.inj hk
 obtain⟨h2,h3⟩:=Prod.mk.inj h2
 obtain⟨h3,h4⟩:=Prod.mk.inj h3
 obtain⟨o,ho,h5⟩:=Option.map_eq_some_iff.1 h2
 obtain⟨h5,h6⟩:=Prod.mk.inj h5
 obtain⟨h6,h7⟩:=Prod.mk.inj h6
 exact qee i h1 ho h5 _ _ _ h6 h7 g _ h3 h4 _ _ hg (qaT _) rfl (qb7 _) hS h
theorem sTh {ops:Array Oper}{Q:Exit→Act→World→Prop}{md:Region.Mode}{S:World→Prop}{fuel:Nat}{listed:Array Bool}{a:Act}{w:World}(i x y g:Nat)(T:Array Value)(hk:(Region.ready md ops listed,ops[i]?.map fun o=>(Region.wanted o (yielded ops a.tmps),o.op,o.dst),a.eval (.tmp x),a.eval (.tmp y))=([i],some (true,.store 93 (.tmp x) (.tmp y),none),.pointer (some ⟨g,0,none⟩),.agg T))(hg:w.heap[g]? = some (.cells th0 93))(hT:ThG T)(hS:S (w.setRow g T))(h:wpAnyH prog md ops Q S fuel (listed.setIfInBounds i true) a (w.setRow g T)):wpAnyH prog md ops Q S (fuel+1) listed a w:=by
 obtain⟨h1,h2⟩:=Prod.mk.inj hk
 obtain⟨h2,h3⟩:=Prod.mk.inj h2
 obtain⟨h3,h4⟩:=Prod.mk.inj h3
 obtain⟨o,ho,h5⟩:=Option.map_eq_some_iff.1 h2
 obtain⟨h5,h6⟩:=Prod.mk.inj h5
 obtain⟨h6,h7⟩:=Prod.mk.inj h6
 exact qee i h1 ho h5 _ _ _ h6 h7 g _ h3 h4 _ _ hg (by rw[hT.1];exact qcw) (by rw[hT.1];rfl) hT.2 hS h
theorem zF {ops:Array Oper}{rest:List Oper}{o:Oper}{a:Act}{w:World}{Q:Exit→Act→World→Prop}(x y:Nat)(hgd:o.guard=none)(ho:o.op=.store 95 (.tmp x) (.tmp y))(g:Nat)(F:Int×Int)(hh:a.eval (.tmp x)=.pointer (some ⟨g,0,none⟩)∧a.eval (.tmp y)=.agg (qae F)∧w.heap[g]? = some (.cells (qae (0,0)) 95))(h:wpList prog ops Q rest (a.put o.dst undef) (w.setRow g (qae F))):wpList prog ops Q (o::rest) a w:=stF x y hgd ho g F hh.1 hh.2.1 hh.2.2 h
theorem zT {ops:Array Oper}{rest:List Oper}{o:Oper}{a:Act}{w:World}{Q:Exit→Act→World→Prop}(x y:Nat)(hgd:o.guard=none)(ho:o.op=.store 93 (.tmp x) (.tmp y))(g:Nat)(T:Array Value)(hh:a.eval (.tmp x)=.pointer (some ⟨g,0,none⟩)∧a.eval (.tmp y)=.agg T∧w.heap[g]? = some (.cells th0 93)∧ThG T)(h:wpList prog ops Q rest (a.put o.dst undef) (w.setRow g T)):wpList prog ops Q (o::rest) a w:=stT x y hgd ho g T hh.1 hh.2.1 hh.2.2.1 hh.2.2.2 h
theorem RTh.ck {P:Program}{f:FuncId}{args:Array Value}{r:Ending}{Q:Ending→World→Prop}{bs:List UInt8}{fm d l:Int}{W V:World}(h:RTh W (inA bs fm d l) V)(c:Calls P f args V fun e W'=>e=r∧Below V.heap.size V W')(k:∀w,Hid (RTh W (inA bs fm d l) w)→w.cell? ⟨W.heap.size,0,none⟩=(#[.string ⟨bs.toArray⟩,.int .i64 fm,.int .i64 d,.int .i64 l]:Array Value)[0]?→w.cell? ⟨W.heap.size,1,none⟩=(#[.string ⟨bs.toArray⟩,.int .i64 fm,.int .i64 d,.int .i64 l]:Array Value)[1]?→w.cell? ⟨W.heap.size,2,none⟩=(#[.string ⟨bs.toArray⟩,.int .i64 fm,.int .i64 d,.int .i64 l]:Array Value)[2]?→w.cell? ⟨W.heap.size,3,none⟩=(#[.string ⟨bs.toArray⟩,.int .i64 fm,.int .i64 d,.int .i64 l]:Array Value)[3]?→Q r w):Calls P f args V Q:=ck4 c h.next (fun _ h=>h.box) k
theorem RIn.ck {P:Program}{f:FuncId}{args:Array Value}{r:Ending}{Q:Ending→World→Prop}{bs:List UInt8}{fm d l:Int}{W V:World}{N:Nat}(h:RIn W (inA bs fm d l) N V)(c:Calls P f args V fun e W'=>e=r∧Below V.heap.size V W')(k:∀w,Hid (RIn W (inA bs fm d l) N w)→w.cell? ⟨W.heap.size,0,none⟩=(#[.string ⟨bs.toArray⟩,.int .i64 fm,.int .i64 d,.int .i64 l]:Array Value)[0]?→w.cell? ⟨W.heap.size,1,none⟩=(#[.string ⟨bs.toArray⟩,.int .i64 fm,.int .i64 d,.int .i64 l]:Array Value)[1]?→w.cell? ⟨W.heap.size,2,none⟩=(#[.string ⟨bs.toArray⟩,.int .i64 fm,.int .i64 d,.int .i64 l]:Array Value)[2]?→w.cell? ⟨W.heap.size,3,none⟩=(#[.string ⟨bs.toArray⟩,.int .i64 fm,.int .i64 d,.int .i64 l]:Array Value)[3]?→Q r w):Calls P f args V Q:=ck4 c h.next (fun _ h=>h.box) k
def qh2 (xs:List Value)(i:Nat)(a:Array Value):Prop:=(xs.drop (5*i)).take 5=a.toList
def qo0 (e:Lit×DataW Unit):Value:=match e.1 with
 |.string l=>qhG l
 |_=>undef
def qbD:Nat→World→(Nat→Prop)→Value→DataW Unit→Prop
 |0,_,_,_,_=>False
 |k+1,V,F,v,d=>match d with
  |.nil=>v=.agg (thA 0 0 ⟨#[]⟩ qaf qaf)
  |.lit (.bool b)=>v=.agg (thA (if b=true then 2 else 1) 0 ⟨#[]⟩ qaf qaf)
  |.lit (.int .i64 z)=>v=.agg (thA 3 z ⟨#[]⟩ qaf qaf) ∧ -9223372036854775808≤z∧z≤9223372036854775807
  |.lit (.string l)=>v=.agg (thA 4 0 ⟨l.toArray⟩ qaf qaf)
  |.ptr (.lit (.string l))=>v=.agg (thA 5 0 ⟨l.toArray⟩ qaf qaf)
  |.agg ds=>∃u xs,v=.agg (thA 6 0 ⟨#[]⟩ qaf u)∧qd9 V 93 5 F u ds.length xs∧∀(i:Nat) (d:DataW Unit),ds[i]? = some d→∃a,qh2 xs i a∧qbD k V F (.agg a) d
  |.map es=>∃kv u xs,v=.agg (thA 7 0 ⟨#[]⟩ kv u)∧qd9 V 9 1 F kv es.length (es.map qo0)∧qd9 V 93 5 F u es.length xs∧∀(i:Nat) (key:Lit) (d:DataW Unit),es[i]? = some (key,d)→∃l a,key=.string l∧qh2 xs i a∧qbD k V F (.agg a) d
  |_=>False
theorem qbD.same {V V':World}{F G:Nat→Prop}(hFG:∀k,F k→G k)(hk:∀k,F k→V'.heap[k]? = V.heap[k]?):∀{k:Nat} {v:Value} {d:DataW Unit},qbD k V F v d→qbD k V' G v d
 |0,_,_,h=>h
 |k+1,v,d,h=>by
  unfold qbD at h ⊢
  split at h
  ·exact h
  ·exact h
  ·exact h
  ·exact h
  ·exact h
  ·obtain⟨u,xs,e,hr,ha⟩:=h
   refine⟨u,xs,e,hr.same hFG hk,fun i d h1 => ?_⟩
   obtain⟨a,e1,e2⟩:=ha i d h1
   exact⟨a,e1,qbD.same hFG hk e2⟩
  ·obtain⟨kv,u,xs,e,hq,hr,ha⟩:=h
   refine⟨kv,u,xs,e,hq.same hFG hk,hr.same hFG hk,fun i key d h1 => ?_⟩
   obtain⟨l,a,e1,e2,e3⟩:=ha i key d h1
   exact⟨l,a,e1,e2,qbD.same hFG hk e3⟩
  ·exact h
theorem qbD.more {V:World}{F:Nat→Prop}:∀{k m:Nat} {v:Value} {d:DataW Unit},k≤m→qbD k V F v d→qbD m V F v d
 |0,_,_,_,_,h=>h.elim
 |k+1,0,_,_,hm,_=>absurd hm (by omega)
 |k+1,m+1,v,d,hm,h=>by
  unfold qbD at h ⊢
  split at h
  ·exact h
  ·exact h
  ·exact h
  ·exact h
  ·exact h
  ·obtain⟨u,xs,e,hr,ha⟩:=h
   refine⟨u,xs,e,hr,fun i d h1 => ?_⟩
   obtain⟨a,e1,e2⟩:=ha i d h1
   exact⟨a,e1,qbD.more (by omega) e2⟩
  ·obtain⟨kv,u,xs,e,hq,hr,ha⟩:=h
   refine⟨kv,u,xs,e,hq,hr,fun i key d h1 => ?_⟩
   obtain⟨l,a,e1,e2,e3⟩:=ha i key d h1
   exact⟨l,a,e1,e2,qbD.more (by omega) e3⟩
  ·exact h
theorem qd9.slice {V:World}{t:TypeId}{size n:Nat}{F:Nat→Prop}{v:Value}{xs:List Value}(h:qd9 V t size F v n xs):∃a m c,v=.slice a m c:=by
 rcases h.2 with ⟨e,_⟩|⟨g,cap,cur,e,_⟩
 ·exact⟨_,_,_,e⟩
 ·exact⟨_,_,_,e⟩
theorem qbx {W:World}{base:Nat}{t:TypeId}{size n:Nat}{v:Value}{xs:List Value}(h:W.ownsRow base t size v n xs)(F:Nat→Prop)(hF:∀g,base≤g→g<W.heap.size→F g):qd9 W t size F v n xs:=by
 refine⟨h.1,?_⟩
 rcases h.2 with h2|⟨g,cap,cur,e,hb,hg,hn,hm,hc,ht⟩
 ·exact .inl h2
 ·exact .inr ⟨g,cap,cur,e,hF g hb (ltA hg),hg,hn,hm,hc,ht⟩
def qa5 (k:Nat)(bs:List UInt8)(lim:Int)(W:World)(r:Except (Int×Int) (DataW Unit×Nat))(e:Ending)(W':World):Prop :=
 Below W.heap.size W W'∧∃r',qaZ bs lim r r'∧match r' with
 |.ok (d,q)=>InR bs lim q∧∃kd n s a i j b p m,e=.returned (.tuple #[.agg (thA kd n s (.slice a i j) (.slice b p m)),.int .i64 q,.agg (qae (0,0))])∧qbD k W' (fun j=>W.heap.size≤j∧j<W'.heap.size) (.agg (thA kd n s (.slice a i j) (.slice b p m))) d
 |.error f=>∃kd n s a i j b p m z,e=.returned (.tuple #[.agg (thA kd n s (.slice a i j) (.slice b p m)),.int .i64 z,.agg (qae f)])
theorem qgu {α:Type}{bs:List UInt8}{lim:Int}{r r':Except (Int×Int) (α×Nat)}(h:qaZ bs lim r r')(hb:Bad r):Bad r':=by
 intro en pl he
 rcases h with h|⟨q,_,_,_,x,h4⟩
 ·exact hb en pl (h.trans he)
 ·rw[h4] at he
  cases he
end
section
open Go.RowKit Go.Lib
def qlK (r:Except (Int×Int) (Nat×Nat)):Value:=match r with
 |.ok (x,_)=>if 9223372036854775807<x then .tuple #[.int .i64 9223372036854775807,.bool true,.agg (qae (0,0))] else .tuple #[.int .i64 x,.bool false,.agg (qae (0,0))]
 |.error f=>.tuple #[.int .i64 0,.bool false,.agg (qae f)]
theorem qcH {bs:List UInt8}{lim:Int}:∀(k p a x q:Nat),InR bs lim p→qa0 bs lim k p a=.ok (x,q)→q=p+k∧InR bs lim q
 |0,p,a,x,q,hi,h=>by
  rw[qa0] at h
  injection h with h
  injection h with _ h2
  subst h2
  exact⟨rfl,hi⟩
 |k+1,p,a,x,q,hi,h=>by
  rw[qa0] at h
  cases hc:bs[p]? with
  |none=>rw[hc] at h;cases h
  |some c =>
   rw[hc] at h
   simp only[] at h
   by_cases hp:(p:Int)=lim
   ·rw[if_pos hp] at h;cases h
   ·rw[if_neg hp] at h
    obtain⟨e,h2⟩:=qcH k (p+1) _ x q (qav hi hc hp) h
    exact⟨by omega,h2⟩
theorem qmo {num g:Nat}(h:(num+1)*256^(g+1)≤18446744073709551616)(hn:36028797018963967<num):g=0:=by
 cases g with
 |zero=>rfl
 |succ g =>
  have h0:(num+1)*256^(g+2)≤18446744073709551616:=h
  have h1:36028797018963968*256^(g+2)≤(num+1)*256^(g+2):=Nat.mul_le_mul_right _ (by omega)
  have h2:65536≤256^(g+2):=by
   have:0<256^g:=Nat.pow_pos (by decide)
   rw[Nat.pow_succ,Nat.pow_succ]
   omega
  omega
theorem qmq {num g c:Nat}(h:(num+1)*256^(g+1)≤18446744073709551616)(hc:c<256):(num*256+c+1)*256^g≤18446744073709551616:=by
 refine Nat.le_trans (Nat.mul_le_mul_right _ (show num*256+c+1≤(num+1)*256 by omega)) ?_
 rw[Nat.mul_assoc,←Nat.pow_succ']
 exact h
theorem qlz {k:Nat}(hk:k≤8):(0+1)*256^k≤18446744073709551616:=by
 have:256^k≤256^8:=Nat.pow_le_pow_right (by decide) hk
 omega
theorem qbF (W:World)(bs:List UInt8)(fm d l lim:Int)(i k:Nat)(hk:k≤8)(hl:Lm bs l lim)(hi:InR bs lim i)(hb:bs.length≤200000000):Calls prog 231 #[.agg (inA bs fm d l),.int .i64 i,.int .i64 k] W fun e W'=>e=.returned (qlK (qa0 bs lim k i 0))∧Below W.heap.size W W':=by
 obtain⟨R,HR⟩:∃R,Hid (qa0 bs lim k i 0=R):=⟨_,show _=_ from rfl⟩
 rw[HR.out]
 have hil:=hi.1
 have HL:Hid (Lm bs l lim):=hl
 have HI:Hid (InR bs lim i):=hi
 have cH:=qdb bs fm d l
 have cB:=qdu bs fm d l
 clear hl hi
 unfold inA
 go_enter func231,ntmps231
 go_wp2
 go_loopg [9,10,11] k (fun g zn zo zj wr=>∃j num:Nat,zj=.int .i64 j∧Hid (j+g=i+k)∧((zn=.int .i64 num∧zo=.bool false∧Hid (num≤9223372036854775807))∨(∃z,g=0∧zn=.int .i64 z∧zo=.bool true∧Hid (9223372036854775807<num)))∧Hid ((num+1)*256^g≤18446744073709551616)∧Hid (RIn W (inA bs fm d l) (W.heap.size+1) wr)∧Hid (qa0 bs lim g j num=R)∧Hid (InR bs lim j))
 case atStart=>exact⟨i,0,rfl,rfl,.inl ⟨rfl,rfl,Nat.zero_le _⟩,qlz hk,qdc _ _,HR,HI⟩
 case round =>
  clear HR HI
  obtain⟨j,num,rfl,hg,hst,hbn,HX,HR,HI⟩:=hrel
  have hjl:j≤bs.length:=HI.out.1
  obtain⟨c0,c1,c2,c3⟩:=qa3 HX.out.box
  have cH1:=fun V=>cH V j
  have cB1:=fun V=>cB V j 9
  have hr:=HR.out
  cases gk with
  |zero =>
   rw[qa0] at hr
   have hlt:¬(j:Int)<(i:Int)+(k:Int):=by have:=hg.out;omega
   rcases hst with ⟨rfl,rfl,hn⟩|⟨z,_,rfl,rfl,hn⟩
   ·have HE:Hid (qlK R=.tuple #[.int .i64 num,.bool false,.agg (qae (0,0))]):=by
     show _=_
     rw[←hr]
     unfold qlK
     simp only[]
     rw[if_neg (by have:=hn.out;omega)]
    clear hr HR hg cH cB cH1 cB1
    go_wp2_with (first
     |((with_reducible refine stF 8 40 rfl rfl (W.heap.size+1) (0,0) ?_ ?_ ?_ ?_);exact rfl;exact rfl;exact HX.out.flt))
    have hf:=qay HX.out bwR (0,0)
    refine qcc results231 hf (.int .i64 num) (.bool false) rfl rfl rfl rfl ⟨?_,hf.2⟩
    rw[HE.out]
   ·have HE:Hid (qlK R=.tuple #[.int .i64 9223372036854775807,.bool true,.agg (qae (0,0))]):=by
     show _=_
     rw[←hr]
     unfold qlK
     simp only[]
     rw[if_pos hn.out]
    clear hr HR hg cH cB cH1 cB1
    go_wp2_with (first
     |((with_reducible refine stF 8 38 rfl rfl (W.heap.size+1) (0,0) ?_ ?_ ?_ ?_);exact rfl;exact rfl;exact HX.out.flt))
    have hf:=qay HX.out bwR (0,0)
    refine qcc results231 hf (.int .i64 9223372036854775807) (.bool true) rfl rfl rfl rfl ⟨?_,hf.2⟩
    rw[HE.out]
  |succ g =>
   rw[qa0] at hr
   have hlt:(j:Int)<(i:Int)+(k:Int):=by have:=hg.out;omega
   obtain⟨rfl,rfl,hn⟩:_∧_∧Hid (num≤9223372036854775807):=by
    rcases hst with h|⟨z,h,_⟩
    ·exact h
    ·omega
   cases hc:bs[j]? with
   |none =>
    rw[hc] at hr
    simp only[] at hr
    rw[qa9 hc] at cH1
    rw[qaH hjl hc] at cB1
    have HE:Hid (R=.error (9,(j:Int))):=hr.symm
    clear hr hc cB cH HR hg
    go_wp2_with (first
     |(go_at_call 113;refine ck4 (cH1 _) HX.out.next (fun _ h=>h.box) ?_;clear cH1 c0 c1 c2 c3;intro w2 HX2 c0 c1 c2 c3)
     |(go_at_call 71;refine ck4 (cB1 _) HX2.out.next (fun _ h=>h.box) ?_;clear cB1 c0 c1 c2 c3;intro w3 HX3 c0 c1 c2 c3)
     |((with_reducible refine stF 8 26 rfl rfl (W.heap.size+1) (9,(j:Int)) ?_ ?_ ?_ ?_);exact rfl;exact rfl;exact HX3.out.flt))
    have hf:=qay HX3.out bwR (9,(j:Int))
    refine qcc results231 hf (.int .i64 0) (.bool false) rfl rfl rfl rfl ⟨?_,hf.2⟩
    rw[HE.out]
    rfl
   |some c =>
    rw[hc] at hr
    simp only[] at hr
    have hix:=fun V=>qah bs j c hc V
    have hjb:=ltL hc
    by_cases hp:(j:Int)=lim
    ·rw[if_pos hp] at hr
     rw[qaJ HL.out hc hp] at cH1
     rw[qaU HL.out hc hp] at cB1
     have HE:Hid (R=.error (8,(j:Int))):=hr.symm
     clear hr hc cB cH HR hg hp hix
     go_wp2_with (first
      |(go_at_call 113;refine ck4 (cH1 _) HX.out.next (fun _ h=>h.box) ?_;clear cH1 c0 c1 c2 c3;intro w2 HX2 c0 c1 c2 c3)
      |(go_at_call 71;refine ck4 (cB1 _) HX2.out.next (fun _ h=>h.box) ?_;clear cB1 c0 c1 c2 c3;intro w3 HX3 c0 c1 c2 c3)
      |((with_reducible refine stF 8 26 rfl rfl (W.heap.size+1) (8,(j:Int)) ?_ ?_ ?_ ?_);exact rfl;exact rfl;exact HX3.out.flt))
     have hf:=qay HX3.out bwR (8,(j:Int))
     refine qcc results231 hf (.int .i64 0) (.bool false) rfl rfl rfl rfl ⟨?_,hf.2⟩
     rw[HE.out]
     rfl
    ·rw[if_neg hp] at hr
     rw[qa7 HL.out HI.out hc hp] at cH1
     have HN:Hid (qa0 bs lim g (j+1) (num*256+c.toNat)=R):=hr
     have HNX:Hid (InR bs lim (j+1)):=qav HI.out hc hp
     have hc255:=c.toNat_lt
     have HB2:Hid ((num*256+c.toNat+1)*256^g≤18446744073709551616):=qmq hbn.out (by omega)
     by_cases hov:36028797018963967<num
     ·have hg0:=qmo hbn.out hov
      subst hg0
      have d1:decide (36028797018963967<(num:Int))=true:=by simp;omega
      have HO:Hid (9223372036854775807<num*256+c.toNat):=by show _<_;omega
      clear hr hc cB cB1 cH HR hp hov hn hbn
      go_wp2_with (first
       |(go_at_call 113;refine ck4 (cH1 _) HX.out.next (fun _ h=>h.box) ?_;clear cH1 c0 c1 c2 c3;intro w2 HX2 c0 c1 c2 c3))
      go_roundg 0
      case measure=>omega
      case rel=>exact⟨j+1,num*256+c.toNat,by go_num,by show _=_;have:=hg.out;omega,.inr ⟨_,rfl,rfl,rfl,HO⟩,HB2,HX2,HN,HNX⟩
     ·have d1:decide (36028797018963967<(num:Int))=false:=by simp;omega
      have hnb:(num:Int)≤36028797018963967:=by omega
      clear hr hc cB cB1 cH HR hp hov hn hbn
      go_wp2_with (first
       |(go_at_call 113;refine ck4 (cH1 _) HX.out.next (fun _ h=>h.box) ?_;clear cH1 c0 c1 c2 c3;intro w2 HX2 c0 c1 c2 c3))
      go_roundg g
      case measure=>omega
      case rel=>exact⟨j+1,num*256+c.toNat,by go_num,by show _=_;have:=hg.out;omega,.inl ⟨by go_num,rfl,by show _≤_;omega⟩,HB2,HX2,HN,HNX⟩
theorem qas {a b:Bool}(h:a=b):Ending.returned (.bool a)=.returned (.bool b):=by rw[h]
theorem qjn (W:World)(bs:List UInt8)(fm d l:Int)(i:Nat)(c:UInt8)(hc:bs[i]? = some c)(hfm:fm=2)(h1:c.toNat / 32=3)(h2:c.toNat%32≤27):Calls prog 209 #[.agg (inA bs fm d l),.int .i64 i] W fun e W'=>e=.returned (.bool true)∧Below W.heap.size W W':=by
 have hix:=qah bs i c hc
 have tf:(fm==2)=true:=by rw[hfm];rfl
 clear hfm
 have q3:((c.toNat:Int) / 32%256==3)=true:=by simp;have:=c.toNat_lt;omega
 have p3:((c.toNat:Int) / 32==3)=true:=by simp;omega
 have r1:(c.toNat:Int)%32≤27:=by omega
 clear h1 h2
 clear hc
 unfold inA
 go_enter func209,ntmps209
 go_wp2
 go_ret
 first|exact⟨rfl,bwA⟩|exact⟨qas (by simp;omega),bwA⟩|exact⟨qas r1,bwA⟩
theorem qjW (W:World)(bs:List UInt8)(fm d l:Int)(i:Nat)(c:UInt8)(hc:bs[i]? = some c)(hfm:fm=2)(h1:c.toNat / 32=3)(h2:¬c.toNat%32≤27):Calls prog 209 #[.agg (inA bs fm d l),.int .i64 i] W fun e W'=>e=.returned (.bool false)∧Below W.heap.size W W':=by
 have hix:=qah bs i c hc
 have tf:(fm==2)=true:=by rw[hfm];rfl
 clear hfm
 have q3:((c.toNat:Int) / 32%256==3)=true:=by simp;have:=c.toNat_lt;omega
 have p3:((c.toNat:Int) / 32==3)=true:=by simp;omega
 have r1:decide ((c.toNat:Int)%32≤27)=false:=by simp;omega
 clear h1 h2
 clear hc
 unfold inA
 go_enter func209,ntmps209
 go_wp2
 go_ret
 first|exact⟨rfl,bwA⟩|exact⟨qas (by simp;omega),bwA⟩|exact⟨qas r1,bwA⟩
theorem qjq (W:World)(bs:List UInt8)(fm d l:Int)(i:Nat)(c:UInt8)(hc:bs[i]? = some c)(hfm:fm=2)(h1:¬c.toNat / 32=3):Calls prog 209 #[.agg (inA bs fm d l),.int .i64 i] W fun e W'=>e=.returned (.bool false)∧Below W.heap.size W W':=by
 have hix:=qah bs i c hc
 have tf:(fm==2)=true:=by rw[hfm];rfl
 clear hfm
 have q3:((c.toNat:Int) / 32%256==3)=false:=by simp;have:=c.toNat_lt;omega
 have p3:((c.toNat:Int) / 32==3)=false:=by simp;omega
 clear h1
 clear hc
 unfold inA
 go_enter func209,ntmps209
 go_wp2
 go_ret
 first|exact⟨rfl,bwA⟩|exact⟨qas (by simp;omega),bwA⟩|exact⟨qas r1,bwA⟩
theorem qlq (W:World)(bs:List UInt8)(fm d l:Int)(i:Nat)(c:UInt8)(hc:bs[i]? = some c)(hfm:fm=3)(h1:0≤(c.toNat:Int))(h2:(c.toNat:Int)≤159):Calls prog 209 #[.agg (inA bs fm d l),.int .i64 i] W fun e W'=>e=.returned (.bool false)∧Below W.heap.size W W':=by
 have hix:=qah bs i c hc
 have tf:(fm==2)=false:=by rw[hfm];rfl
 clear hfm
 clear hc
 unfold inA
 go_enter func209,ntmps209
 go_wp2
 go_ret
 first|exact⟨rfl,bwA⟩|exact⟨qas (by simp;omega),bwA⟩|exact⟨qas r1,bwA⟩
theorem qk5 (W:World)(bs:List UInt8)(fm d l:Int)(i:Nat)(c:UInt8)(hc:bs[i]? = some c)(hfm:fm=3)(h1:160≤(c.toNat:Int))(h2:(c.toNat:Int)≤191):Calls prog 209 #[.agg (inA bs fm d l),.int .i64 i] W fun e W'=>e=.returned (.bool true)∧Below W.heap.size W W':=by
 have hix:=qah bs i c hc
 have tf:(fm==2)=false:=by rw[hfm];rfl
 clear hfm
 clear hc
 unfold inA
 go_enter func209,ntmps209
 go_wp2
 go_ret
 first|exact⟨rfl,bwA⟩|exact⟨qas (by simp;omega),bwA⟩|exact⟨qas r1,bwA⟩
theorem qk1 (W:World)(bs:List UInt8)(fm d l:Int)(i:Nat)(c:UInt8)(hc:bs[i]? = some c)(hfm:fm=3)(h1:192≤(c.toNat:Int))(h2:(c.toNat:Int)≤216):Calls prog 209 #[.agg (inA bs fm d l),.int .i64 i] W fun e W'=>e=.returned (.bool false)∧Below W.heap.size W W':=by
 have hix:=qah bs i c hc
 have tf:(fm==2)=false:=by rw[hfm];rfl
 clear hfm
 clear hc
 unfold inA
 go_enter func209,ntmps209
 go_wp2
 go_ret
 first|exact⟨rfl,bwA⟩|exact⟨qas (by simp;omega),bwA⟩|exact⟨qas r1,bwA⟩
theorem qly (W:World)(bs:List UInt8)(fm d l:Int)(i:Nat)(c:UInt8)(hc:bs[i]? = some c)(hfm:fm=3)(h1:217≤(c.toNat:Int))(h2:(c.toNat:Int)≤219):Calls prog 209 #[.agg (inA bs fm d l),.int .i64 i] W fun e W'=>e=.returned (.bool true)∧Below W.heap.size W W':=by
 have hix:=qah bs i c hc
 have tf:(fm==2)=false:=by rw[hfm];rfl
 clear hfm
 clear hc
 unfold inA
 go_enter func209,ntmps209
 go_wp2
 go_ret
 first|exact⟨rfl,bwA⟩|exact⟨qas (by simp;omega),bwA⟩|exact⟨qas r1,bwA⟩
theorem qk3 (W:World)(bs:List UInt8)(fm d l:Int)(i:Nat)(c:UInt8)(hc:bs[i]? = some c)(hfm:fm=3)(h1:220≤(c.toNat:Int))(h2:(c.toNat:Int)≤255):Calls prog 209 #[.agg (inA bs fm d l),.int .i64 i] W fun e W'=>e=.returned (.bool false)∧Below W.heap.size W W':=by
 have hix:=qah bs i c hc
 have tf:(fm==2)=false:=by rw[hfm];rfl
 clear hfm
 clear hc
 unfold inA
 go_enter func209,ntmps209
 go_wp2
 go_ret
 first|exact⟨rfl,bwA⟩|exact⟨qas (by simp;omega),bwA⟩|exact⟨qas r1,bwA⟩
theorem qe0 (W:World)(bs:List UInt8)(fm d l:Int)(i:Nat)(c:UInt8)(hc:bs[i]? = some c)(hfm:fm=2)(h1:c.toNat / 32=4)(h2:c.toNat%32≤27):Calls prog 174 #[.agg (inA bs fm d l),.int .i64 i] W fun e W'=>e=.returned (.bool true)∧Below W.heap.size W W':=by
 have hix:=qah bs i c hc
 have tf:(fm==2)=true:=by rw[hfm];rfl
 clear hfm
 have q4:((c.toNat:Int) / 32%256==4)=true:=by simp;have:=c.toNat_lt;omega
 have p4:((c.toNat:Int) / 32==4)=true:=by simp;omega
 have r1:(c.toNat:Int)%32≤27:=by omega
 clear h1 h2
 clear hc
 unfold inA
 go_enter func174,ntmps174
 go_wp2
 go_ret
 first|exact⟨rfl,bwA⟩|exact⟨qas (by simp;omega),bwA⟩|exact⟨qas r1,bwA⟩
theorem qep (W:World)(bs:List UInt8)(fm d l:Int)(i:Nat)(c:UInt8)(hc:bs[i]? = some c)(hfm:fm=2)(h1:c.toNat / 32=4)(h2:¬c.toNat%32≤27):Calls prog 174 #[.agg (inA bs fm d l),.int .i64 i] W fun e W'=>e=.returned (.bool false)∧Below W.heap.size W W':=by
 have hix:=qah bs i c hc
 have tf:(fm==2)=true:=by rw[hfm];rfl
 clear hfm
 have q4:((c.toNat:Int) / 32%256==4)=true:=by simp;have:=c.toNat_lt;omega
 have p4:((c.toNat:Int) / 32==4)=true:=by simp;omega
 have r1:decide ((c.toNat:Int)%32≤27)=false:=by simp;omega
 clear h1 h2
 clear hc
 unfold inA
 go_enter func174,ntmps174
 go_wp2
 go_ret
 first|exact⟨rfl,bwA⟩|exact⟨qas (by simp;omega),bwA⟩|exact⟨qas r1,bwA⟩
theorem qen (W:World)(bs:List UInt8)(fm d l:Int)(i:Nat)(c:UInt8)(hc:bs[i]? = some c)(hfm:fm=2)(h1:c.toNat / 32=5)(h2:c.toNat%32≤27):Calls prog 174 #[.agg (inA bs fm d l),.int .i64 i] W fun e W'=>e=.returned (.bool true)∧Below W.heap.size W W':=by
 have hix:=qah bs i c hc
 have tf:(fm==2)=true:=by rw[hfm];rfl
 clear hfm
 have q4:((c.toNat:Int) / 32%256==4)=false:=by simp;have:=c.toNat_lt;omega
 have p4:((c.toNat:Int) / 32==4)=false:=by simp;omega
 have q5:((c.toNat:Int) / 32%256==5)=true:=by simp;have:=c.toNat_lt;omega
 have p5:((c.toNat:Int) / 32==5)=true:=by simp;omega
 have r1:(c.toNat:Int)%32≤27:=by omega
 clear h1 h2
 clear hc
 unfold inA
 go_enter func174,ntmps174
 go_wp2
 go_ret
 first|exact⟨rfl,bwA⟩|exact⟨qas (by simp;omega),bwA⟩|exact⟨qas r1,bwA⟩
theorem qea (W:World)(bs:List UInt8)(fm d l:Int)(i:Nat)(c:UInt8)(hc:bs[i]? = some c)(hfm:fm=2)(h1:c.toNat / 32=5)(h2:¬c.toNat%32≤27):Calls prog 174 #[.agg (inA bs fm d l),.int .i64 i] W fun e W'=>e=.returned (.bool false)∧Below W.heap.size W W':=by
 have hix:=qah bs i c hc
 have tf:(fm==2)=true:=by rw[hfm];rfl
 clear hfm
 have q4:((c.toNat:Int) / 32%256==4)=false:=by simp;have:=c.toNat_lt;omega
 have p4:((c.toNat:Int) / 32==4)=false:=by simp;omega
 have q5:((c.toNat:Int) / 32%256==5)=true:=by simp;have:=c.toNat_lt;omega
 have p5:((c.toNat:Int) / 32==5)=true:=by simp;omega
 have r1:decide ((c.toNat:Int)%32≤27)=false:=by simp;omega
 clear h1 h2
 clear hc
 unfold inA
 go_enter func174,ntmps174
 go_wp2
 go_ret
 first|exact⟨rfl,bwA⟩|exact⟨qas (by simp;omega),bwA⟩|exact⟨qas r1,bwA⟩
theorem qec (W:World)(bs:List UInt8)(fm d l:Int)(i:Nat)(c:UInt8)(hc:bs[i]? = some c)(hfm:fm=2)(h1:¬c.toNat / 32=4)(h2:¬c.toNat / 32=5):Calls prog 174 #[.agg (inA bs fm d l),.int .i64 i] W fun e W'=>e=.returned (.bool false)∧Below W.heap.size W W':=by
 have hix:=qah bs i c hc
 have tf:(fm==2)=true:=by rw[hfm];rfl
 clear hfm
 have q4:((c.toNat:Int) / 32%256==4)=false:=by simp;have:=c.toNat_lt;omega
 have p4:((c.toNat:Int) / 32==4)=false:=by simp;omega
 have q5:((c.toNat:Int) / 32%256==5)=false:=by simp;have:=c.toNat_lt;omega
 have p5:((c.toNat:Int) / 32==5)=false:=by simp;omega
 clear h1 h2
 clear hc
 unfold inA
 go_enter func174,ntmps174
 go_wp2
 go_ret
 first|exact⟨rfl,bwA⟩|exact⟨qas (by simp;omega),bwA⟩|exact⟨qas r1,bwA⟩
theorem qeE (W:World)(bs:List UInt8)(fm d l:Int)(i:Nat)(c:UInt8)(hc:bs[i]? = some c)(hfm:fm=3)(h1:0≤(c.toNat:Int))(h2:(c.toNat:Int)≤127):Calls prog 174 #[.agg (inA bs fm d l),.int .i64 i] W fun e W'=>e=.returned (.bool false)∧Below W.heap.size W W':=by
 have hix:=qah bs i c hc
 have tf:(fm==2)=false:=by rw[hfm];rfl
 clear hfm
 clear hc
 unfold inA
 go_enter func174,ntmps174
 go_wp2
 go_ret
 first|exact⟨rfl,bwA⟩|exact⟨qas (by simp;omega),bwA⟩|exact⟨qas r1,bwA⟩
theorem qeN (W:World)(bs:List UInt8)(fm d l:Int)(i:Nat)(c:UInt8)(hc:bs[i]? = some c)(hfm:fm=3)(h1:128≤(c.toNat:Int))(h2:(c.toNat:Int)≤159):Calls prog 174 #[.agg (inA bs fm d l),.int .i64 i] W fun e W'=>e=.returned (.bool true)∧Below W.heap.size W W':=by
 have hix:=qah bs i c hc
 have tf:(fm==2)=false:=by rw[hfm];rfl
 clear hfm
 clear hc
 unfold inA
 go_enter func174,ntmps174
 go_wp2
 go_ret
 first|exact⟨rfl,bwA⟩|exact⟨qas (by simp;omega),bwA⟩|exact⟨qas r1,bwA⟩
theorem qe8 (W:World)(bs:List UInt8)(fm d l:Int)(i:Nat)(c:UInt8)(hc:bs[i]? = some c)(hfm:fm=3)(h1:160≤(c.toNat:Int))(h2:(c.toNat:Int)≤219):Calls prog 174 #[.agg (inA bs fm d l),.int .i64 i] W fun e W'=>e=.returned (.bool false)∧Below W.heap.size W W':=by
 have hix:=qah bs i c hc
 have tf:(fm==2)=false:=by rw[hfm];rfl
 clear hfm
 clear hc
 unfold inA
 go_enter func174,ntmps174
 go_wp2
 go_ret
 first|exact⟨rfl,bwA⟩|exact⟨qas (by simp;omega),bwA⟩|exact⟨qas r1,bwA⟩
theorem qeO (W:World)(bs:List UInt8)(fm d l:Int)(i:Nat)(c:UInt8)(hc:bs[i]? = some c)(hfm:fm=3)(h1:220≤(c.toNat:Int))(h2:(c.toNat:Int)≤223):Calls prog 174 #[.agg (inA bs fm d l),.int .i64 i] W fun e W'=>e=.returned (.bool true)∧Below W.heap.size W W':=by
 have hix:=qah bs i c hc
 have tf:(fm==2)=false:=by rw[hfm];rfl
 clear hfm
 clear hc
 unfold inA
 go_enter func174,ntmps174
 go_wp2
 go_ret
 first|exact⟨rfl,bwA⟩|exact⟨qas (by simp;omega),bwA⟩|exact⟨qas r1,bwA⟩
theorem qeC (W:World)(bs:List UInt8)(fm d l:Int)(i:Nat)(c:UInt8)(hc:bs[i]? = some c)(hfm:fm=3)(h1:224≤(c.toNat:Int))(h2:(c.toNat:Int)≤255):Calls prog 174 #[.agg (inA bs fm d l),.int .i64 i] W fun e W'=>e=.returned (.bool false)∧Below W.heap.size W W':=by
 have hix:=qah bs i c hc
 have tf:(fm==2)=false:=by rw[hfm];rfl
 clear hfm
 clear hc
 unfold inA
 go_enter func174,ntmps174
 go_wp2
 go_ret
 first|exact⟨rfl,bwA⟩|exact⟨qas (by simp;omega),bwA⟩|exact⟨qas r1,bwA⟩
theorem qnA:(List.range 256).all (fun c=>decide (((qcs c).1=8↔(c / 32=3∧c%32≤27))∧(((qcs c).1=9∨(qcs c).1=10)↔((c / 32=4∨c / 32=5)∧c%32≤27))))=true:=by kernel_rfl
theorem cbT (c:UInt8):((qcs c.toNat).1=8↔(c.toNat / 32=3∧c.toNat%32≤27))∧(((qcs c.toNat).1=9∨(qcs c.toNat).1=10)↔((c.toNat / 32=4∨c.toNat / 32=5)∧c.toNat%32≤27)):=of_decide_eq_true (List.all_eq_true.1 qnA c.toNat (List.mem_range.2 c.toNat_lt))
theorem qna:(List.range 256).all (fun c=>decide (((qbG c).1=8↔((160≤c∧c≤191)∨(217≤c∧c≤219)))∧(((qbG c).1=9∨(qbG c).1=10)↔((128≤c∧c≤159)∨(220≤c∧c≤223)))))=true:=by kernel_rfl
theorem pkT (c:UInt8):((qbG c.toNat).1=8↔((160≤c.toNat∧c.toNat≤191)∨(217≤c.toNat∧c.toNat≤219)))∧(((qbG c.toNat).1=9∨(qbG c.toNat).1=10)↔((128≤c.toNat∧c.toNat≤159)∨(220≤c.toNat∧c.toNat≤223))):=of_decide_eq_true (List.all_eq_true.1 qna c.toNat (List.mem_range.2 c.toNat_lt))
def hdO (fm:Int)(c:Nat):Nat×Nat×Nat:=if fm=2 then qcs c else qbG c
theorem qjB (W:World)(bs:List UInt8)(fm d l:Int)(i:Nat)(c:UInt8)(hc:bs[i]? = some c)(hfm:fm=2∨fm=3):Calls prog 209 #[.agg (inA bs fm d l),.int .i64 i] W fun e W'=>e=.returned (.bool (decide ((hdO fm c.toNat).1=8)))∧Below W.heap.size W W':=by
 have h255:=c.toNat_lt
 rcases hfm with rfl|rfl
 ·have ht:=(cbT c).1
  have hd:(hdO 2 c.toNat).1=(qcs c.toNat).1:=rfl
  rw[hd]
  by_cases h1:c.toNat / 32=3
  ·by_cases h2:c.toNat%32≤27
   ·rw[decide_eq_true (ht.2 ⟨h1,h2⟩)]
    exact qjn W bs 2 d l i c hc rfl h1 h2
   ·rw[decide_eq_false (fun h=>h2 (ht.1 h).2)]
    exact qjW W bs 2 d l i c hc rfl h1 h2
  ·rw[decide_eq_false (fun h=>h1 (ht.1 h).1)]
   exact qjq W bs 2 d l i c hc rfl h1
 ·have ht:=(pkT c).1
  have hd:(hdO 3 c.toNat).1=(qbG c.toNat).1:=rfl
  rw[hd]
  by_cases h1:c.toNat≤159
  ·rw[decide_eq_false (fun h=>by have:=ht.1 h;omega)]
   exact qlq W bs 3 d l i c hc rfl (by omega) (by omega)
  ·by_cases h2:c.toNat≤191
   ·rw[decide_eq_true (ht.2 (by omega))]
    exact qk5 W bs 3 d l i c hc rfl (by omega) (by omega)
   ·by_cases h3:c.toNat≤216
    ·rw[decide_eq_false (fun h=>by have:=ht.1 h;omega)]
     exact qk1 W bs 3 d l i c hc rfl (by omega) (by omega)
    ·by_cases h4:c.toNat≤219
     ·rw[decide_eq_true (ht.2 (by omega))]
      exact qly W bs 3 d l i c hc rfl (by omega) (by omega)
     ·rw[decide_eq_false (fun h=>by have:=ht.1 h;omega)]
      exact qk3 W bs 3 d l i c hc rfl (by omega) (by omega)
theorem qeh (W:World)(bs:List UInt8)(fm d l:Int)(i:Nat)(c:UInt8)(hc:bs[i]? = some c)(hfm:fm=2∨fm=3):Calls prog 174 #[.agg (inA bs fm d l),.int .i64 i] W fun e W'=>e=.returned (.bool (decide ((hdO fm c.toNat).1=9∨(hdO fm c.toNat).1=10)))∧Below W.heap.size W W':=by
 have h255:=c.toNat_lt
 rcases hfm with rfl|rfl
 ·have ht:=(cbT c).2
  have hd:(hdO 2 c.toNat).1=(qcs c.toNat).1:=rfl
  rw[hd]
  by_cases h1:c.toNat / 32=4
  ·by_cases h2:c.toNat%32≤27
   ·rw[decide_eq_true (ht.2 ⟨.inl h1,h2⟩)]
    exact qe0 W bs 2 d l i c hc rfl h1 h2
   ·rw[decide_eq_false (fun h=>h2 (ht.1 h).2)]
    exact qep W bs 2 d l i c hc rfl h1 h2
  ·by_cases h5:c.toNat / 32=5
   ·by_cases h2:c.toNat%32≤27
    ·rw[decide_eq_true (ht.2 ⟨.inr h5,h2⟩)]
     exact qen W bs 2 d l i c hc rfl h5 h2
    ·rw[decide_eq_false (fun h=>h2 (ht.1 h).2)]
     exact qea W bs 2 d l i c hc rfl h5 h2
   ·rw[decide_eq_false (fun h=>by have:=(ht.1 h).1;omega)]
    exact qec W bs 2 d l i c hc rfl h1 h5
 ·have ht:=(pkT c).2
  have hd:(hdO 3 c.toNat).1=(qbG c.toNat).1:=rfl
  rw[hd]
  by_cases h1:c.toNat≤127
  ·rw[decide_eq_false (fun h=>by have:=ht.1 h;omega)]
   exact qeE W bs 3 d l i c hc rfl (by omega) (by omega)
  ·by_cases h2:c.toNat≤159
   ·rw[decide_eq_true (ht.2 (by omega))]
    exact qeN W bs 3 d l i c hc rfl (by omega) (by omega)
   ·by_cases h3:c.toNat≤219
    ·rw[decide_eq_false (fun h=>by have:=ht.1 h;omega)]
     exact qe8 W bs 3 d l i c hc rfl (by omega) (by omega)
    ·by_cases h4:c.toNat≤223
     ·rw[decide_eq_true (ht.2 (by omega))]
      exact qeO W bs 3 d l i c hc rfl (by omega) (by omega)
     ·rw[decide_eq_false (fun h=>by have:=ht.1 h;omega)]
      exact qeC W bs 3 d l i c hc rfl (by omega) (by omega)
end
end Go.Proofs.YtllcbnfmihfaaaaGreatDoor
