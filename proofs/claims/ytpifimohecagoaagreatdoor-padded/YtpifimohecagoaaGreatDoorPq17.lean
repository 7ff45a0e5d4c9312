import Derived.Test.YtpifimohecagoaaGreatDoorPq16
set_option maxRecDepth 100000
set_option maxHeartbeats 8000000
namespace Go.Proofs.YtpifimohecagoaaGreatDoor
open Go.Proofs.Tryz
variable{P:Program}{Q:Exit->Act->World->Prop}{N b c k l p q wi wi':Nat}{a:List (List UInt8)×List (Lit×DataW Unit)}{V V' V3 W w w5:World}{s:Src}{ds:List (DataW Unit)}{d:DataW Unit}{v' x:Value}{xs:List Value}{ks:List (List UInt8)}
section
open Go.RowKit
theorem qiO{β:Type}{md:Region.Mode}{ops:Array Oper}{fuel:Nat}{listed:Array Bool}{a:Act}(L:Array Bool)(b:Nat)(c:β->List (Nat×Value))(T:β->Prop)(d:β->World)(e:(∀x,T x->wpAny P md ops Q b L ((c x).foldl (λa p=>a.put (some p.1) p.2) a) (d x))->wpAny P md ops Q fuel listed a w)(f:∀x,T x->wpAny P md ops Q b L ((c x).foldl (λa p=>a.put (some p.1) p.2) a) (d x)):wpAny P md ops Q fuel listed a w:=e f
theorem qdp{o:Oper}{a:Act}{K:Act->World->Prop}(s x:Operand)(t:TypeId)(O:o.op=.call {callee:=.builtin .append,args:=#[s,x],argTypes:=#[t,t]})(f:Nat)(e:TypeId)(i:TypeInfo)(z:Value)(size l:Nat)(G:P.underlying t=some (.slice e))(hi:P.info? e=some i)(H:i.zero=some z)(F:i.size=size)(y:i.bytes=l)(U:z.cells.size=size)(S:0<size)(v:Value)(n:Nat)(p:List Value)(R:a.eval s=v)(D:w.ownsRow f e size v n p)(k:Addr)(m c:Nat)(b:List Value)(T:a.eval x=.slice (some k) m c)(B:b.length=m*size)(C:∀j u,b[j]?=some u->w.cell? (k.add j)=some u)(q:∀u∈b,u.oneCell'=true)(N:0<m)(r:n+m<=maxLen)(A:(n+m)*l<=140737488355328)(M:f<=w.heap.size)(h:∀d g,g.ownsRow f e size d (n+m) (p++b)->w.grownBy g v.ownBlock->(d.ownBlock=v.ownBlock\/d.ownBlock=some w.heap.size)->K (a.put o.dst d) g):o.wp P a w K Q:=by
 obtain⟨d,g,E,I,J,_⟩:=run_append_own (P:=P) w f t o.type e i z size l G hi H F y U S v n p D k m c b B C q r A M;have L:=qdi (P:=P) w f t o.type e i z size l G hi H F y v n p D k m c b B C q N r A E;unfold Oper.wp execOp;simp only[O,resolve,invoke,builtin,Sem.run_bind,Sem.run_pure,Result.andThen_ok,List.map_toArray,List.map_cons,List.map_nil,R,T,E];exact h d g I J L
structure qoQ(k:Nat)(W:World)(b:Nat)(s:Src)(N wi p:Nat)(ds:List (DataW Unit))(V:World):Prop where
 src:qad V b {s with pos:=p,within:=wi}
 but:But b W V
 rbox:V.heap[W.heap.size]?=some (.cells #[.pointer (some ⟨b,0,none⟩)] 130)
 box:V.heap[N]?=some (.cells #[.pointer (some ⟨b,0,none⟩)] 130)
 hN:W.heap.size+2<=N
 own:∃a l c xs,V.heap[W.heap.size+1]?=some (.cells #[.slice a l c] 194)/\V.ownsRow (W.heap.size+2) 82 1 (.slice a l c) ds.length xs/\some N≠(Value.slice a l c).ownBlock/\∀(i:Nat) (x:Value) (d:DataW Unit),xs[i]?=some x->ds[i]?=some d->qai k V (λj=>W.heap.size+2<=j/\j<V.heap.size/\some j≠(Value.slice a l c).ownBlock) x d
 size:W.heap.size+2<=V.heap.size
 len:ds.length<=p
theorem qoQ.step(h:qoQ k W b s N wi p ds V)(z:b<W.heap.size)(u:qad V' b {s with pos:=q,within:=wi' })(e:But b V V')(t:ds.length<=q):qoQ k W b s N wi' q ds V':=by
 obtain⟨a,l,c,w,g,m,n,o⟩:=h.own;have A:=h.size;have y:=h.hN;exact⟨u,h.but.trans e,(e.block _ (ltA h.rbox) (by omega)).trans h.rbox,(e.block _ (ltA h.box) (by omega)).trans h.box,h.hN,⟨a,l,c,w,(e.block _ (ltA g) (by omega)).trans g,qdb m e (by omega),n,λi x d v r=>(o i x d v r).same (λj f=>⟨f.1,Nat.lt_of_lt_of_le f.2.1 e.size,f.2.2⟩) (λj f=>e.block j f.2.1 (by omega))⟩,Nat.le_trans h.size e.size,t⟩
theorem qoQ.push{a:Option Addr}(h:qoQ k W b s N wi p ds V)(M:qad W b s)(hb:b<W.heap.size)(m:But b V V3)(S:qad V3 b {s with pos:=q,within:=wi})(U:qai k V3 (λj=>V.heap.size<=j/\j<V3.heap.size) x d)(F:V.heap[W.heap.size+1]?=some (.cells #[.slice a l c] 194))(D:V.ownsRow (W.heap.size+2) 82 1 (.slice a l c) ds.length xs)(G:some N≠(Value.slice a l c).ownBlock)(ab:∀(i:Nat) (x:Value) (d:DataW Unit),xs[i]?=some x->ds[i]?=some d->qai k V (λj=>W.heap.size+2<=j/\j<V.heap.size/\some j≠(Value.slice a l c).ownBlock) x d)(E:w5.ownsRow (W.heap.size+2) 82 1 v' (ds.length+1) (xs++[x]))(n:(V3.alloc (.cells #[x] 82)).grownBy w5 (Value.slice a l c).ownBlock)(t:v'.ownBlock=(Value.slice a l c).ownBlock\/v'.ownBlock=some (V3.alloc (.cells #[x] 82)).heap.size)(Z:ds.length+1<=q):qoQ k W b s N wi q (ds++[d]) (w5.setCell ⟨W.heap.size+1,0,none⟩ v'):=by
 have ag:=h.size;have hN:=h.hN;have R:=ltA h.box;have ae:=m.size;have af:V3.heap.size+1<=w5.heap.size:=by have:=n.size;simpa using this
 have I:∀g,(Value.slice a l c).ownBlock=some g->W.heap.size+2<=g:=λg n=>qbE D n;have ac:=qid D;have v:∀j,j<V3.heap.size->some j≠(Value.slice a l c).ownBlock->j≠W.heap.size+1->(w5.setCell ⟨W.heap.size+1,0,none⟩ v').heap[j]?=V3.heap[j]?:=λj f r Y=>(heap_setCell_other w5 _ _ _ (by simpa using Y)).trans ((n.block j (by simp;omega) r).trans (Below.heap_alloc _ _ _ f));have B:∀j,j<W.heap.size+1->(w5.setCell ⟨W.heap.size+1,0,none⟩ v').heap[j]?=V3.heap[j]?:=λj f=>v j (by omega) (λe=>by have:=I j e.symm;omega) (by omega);have Q:=(n.block _ (by simp;omega) (λe=>by have:=I _ e.symm;omega)).trans ((Below.heap_alloc _ _ _ (by omega)).trans ((m.block _ (ltA F) (by omega)).trans F));have w:(w5.setCell ⟨W.heap.size+1,0,none⟩ v').heap.size=w5.heap.size:=by simp[World.setCell]
 obtain⟨A,z,rfl⟩:=ownsRow_succ E;have y:(w5.setCell ⟨W.heap.size+1,0,none⟩ (.slice (some ⟨A,0,none⟩) (ds.length+1) z)).ownsRow (W.heap.size+2) 82 1 (.slice (some ⟨A,0,none⟩) (ds.length+1) z) (ds.length+1) (xs++[x]):=by
  refine⟨E.1,?_⟩;rcases E.2 with O|⟨g,J,K,e,T,X,P⟩
  ·exact .inl O
  exact .inr ⟨g,J,K,e,T,(heap_setCell_other w5 _ _ _ (by simp;omega)).trans X,P⟩
 have C:∀j,j<V3.heap.size->some j≠(Value.slice a l c).ownBlock->some j≠(Value.slice (some ⟨A,0,none⟩) (ds.length+1) z).ownBlock:=λj f r=>by
  rcases t with t|t
  ·rw[t];exact r
  rw[t];intro e;injection e with e;simp at e;omega
 refine⟨M.same rfl rfl S (λj f=>B j (by omega)),⟨n.os.trans (m.os.trans h.but.os),n.tape.trans (m.tape.trans h.but.tape),n.output.trans (m.output.trans h.but.output),by rw[w];have:=h.but.size;omega,λj f r=>(B j (by omega)).trans ((m.block j (by omega) r).trans (h.but.block j f r))⟩,(B _ (by omega)).trans ((m.block _ (by omega) (by omega)).trans h.rbox),(v N (by omega) G (by omega)).trans ((m.block N R (by omega)).trans h.box),h.hN,⟨_,_,_,_,?_,by rw[List.length_append];exact y,?_,λi ad L u o=>?_⟩,by rw[w];omega,by rw[List.length_append];exact Z⟩
 ·rw[heap_setCell_same _ _ _ _ _ _ Q];rfl
 ·exact C N (by omega) G
 have aa:xs.length=ds.length:=by have:=D.1;omega
 by_cases hi:i<ds.length
 ·rw[List.getElem?_append_left (by omega)]at u o;exact(ab i ad L u o).same (λj f=>⟨f.1,by rw[w];have:=f.2.1;omega,C j (by omega) f.2.2⟩) (λj f=>(v j (by omega) f.2.2 (by omega)).trans (m.block j f.2.1 (by omega)))
 have e:i=ds.length:=by
  have:=ltL o;rw[List.length_append]at this;simp at this;omega
 subst e;rw[List.getElem?_append_right (by omega)]at o;rw[List.getElem?_append_right (by omega),aa]at u;simp at u o;subst u;subst o;have H:∀j,V.heap.size<=j->some j≠(Value.slice a l c).ownBlock:=λj f e=>by have:=ac j e.symm;omega
 exact U.same (λj f=>⟨by omega,by rw[w];omega,C j f.2 (H j f.1)⟩) (λj f=>v j f.2 (H j f.1) (by omega))
theorem qqi(k:Nat)(W:World)(b:Nat)(s:Src)(wi:Nat)(z:Nat->Except (Int×Int) (DataW Unit×Nat))(O:qad W b s)(ae:qgC k b {s with within:=wi} W z)(ac:∀p d q,z p=.ok (d,q)->p<q)(an:s.bs.length<=200000000)(N p:Nat)(B:List (DataW Unit))(V:World)(h:qoQ k W b s N wi p B V):Calls prog 202 #[.pointer (some ⟨W.heap.size+1,0,none⟩),.pointer (some ⟨W.heap.size,0,none⟩)] V (qcP (qoQ k W b s N wi) (λV=>But b W V) (liJ z B p)):=by
 obtain⟨i0,hi,ai,aj,ak⟩:=info_parts Tryz.infoThing;have ab:=ltA O.row;obtain⟨r,w,v,xs,m,L,ad,ah⟩:=h.own;have J:W.heap.size+1<(World.drew V).heap.size:=ltA m;have am:B.length<=200000000:=by have P:=h.len;have Q:p<=s.bs.length:=h.src.le;omega
 have C:=h.src.below (Below.refl _ _).drew;have i:=h.but.trans (But.of_below (Below.refl _ _).drew);have k0:(World.drew V).cell? ⟨W.heap.size+1,0,none⟩=some (.slice r w v):=qaa m 0;have k1:(World.drew V).cell? ⟨W.heap.size,0,none⟩=some (.pointer (some ⟨b,0,none⟩)):=qaa h.rbox 0;have af:=h.size;have l:∀A,qad A b {s with pos:=p,within:=wi}->But b W A->Calls prog 188 #[.agg #[.pointer (some ⟨b,0,none⟩)]] A (qcj k A b {s with pos:=p,within:=wi} (z p)):=λA P Q=>ae A p P Q
 cases D:z p with
 |error Z =>
  obtain⟨F,I⟩:=Z;have M:liJ z B p=.error (F,I):=by unfold liJ;rw[D]
  rw[M];rw[D]at l;go_enter func202,ntmps202
  go_wp2_with fail
  refine wp_region_any (by kernel_rfl) ?_;change wpAny _ _ _ _ _ _ _ (World.drew V);refine rd2 0 1 rfl rfl (by kernel_rfl) (λK a=>?_) (λK a=>?_)
  ·go_simp;refine a _ _ ?_;refine rd1 1 rfl (by kernel_rfl) (λK a=>?_);go_simp;refine a _ _ ?_;refine rd1 2 rfl (by kernel_rfl) (λK a=>?_);go_simp;refine(l _ C i).mono ?_;rintro e c ⟨f,g⟩;obtain rfl:=(show qan F I e from g)
   exact⟨rfl,rfl,i.trans f⟩
  go_simp;refine a _ _ ?_;refine rd2 0 2 rfl rfl (by kernel_rfl) (λK a=>?_) (λK a=>?_)
  ·go_simp;refine a _ _ ?_;refine rd1 2 rfl (by kernel_rfl) (λK a=>?_);go_simp;refine(l _ C i).mono ?_;rintro e c ⟨f,g⟩;obtain rfl:=(show qan F I e from g)
   exact⟨rfl,rfl,i.trans f⟩
  go_simp;refine(l _ C i).mono ?_;rintro e c ⟨f,g⟩;obtain rfl:=(show qan F I e from g)
  exact⟨rfl,rfl,i.trans f⟩
 |ok Y =>
  obtain⟨d,q⟩:=Y;have M:liJ z B p=.ok (B++[d],q):=by unfold liJ;rw[D]
  rw[M];have ao:=ac p d q D;rw[D]at l;go_enter func202,ntmps202
  go_wp2_with fail
  refine wp_region_any (by kernel_rfl) ?_;change wpAny _ _ _ _ _ _ _ (World.drew V);refine qiO (β:=TypeId×Value×World) #[true,true,true,true,false,false] 2 (λx=>[(2,.slice r w v),(3,.agg #[.pointer (some ⟨b,0,none⟩)]),(4,.iface x.1 x.2.1),(5,.slice (some ⟨x.2.2.heap.size,0,none⟩) 1 1)]) (λx=>But b (World.drew V) x.2.2/\qad x.2.2 b {s with pos:=q,within:=wi}/\qai k x.2.2 (λj=>(World.drew V).heap.size<=j/\j<x.2.2.heap.size) (.iface x.1 x.2.1) d) (λx=>x.2.2.alloc (.cells #[.iface x.1 x.2.1] 82)) (λH=>?reg) ?tail
  case reg =>
   refine rd2 0 1 rfl rfl (by kernel_rfl) (λK a=>?_) (λK a=>?_)
   ·go_simp;refine a _ _ ?_;refine rd1 1 rfl (by kernel_rfl) (λK a=>?_);go_simp;refine a _ _ ?_;refine rd1 2 rfl (by kernel_rfl) (λK a=>?_);go_simp;refine(l _ C i).mono ?_;rintro e c ⟨f,g⟩;obtain⟨⟨t,y,rfl,o⟩,n⟩:=(show(∃t y,e=.returned (.iface t y)/\qai k c (λj=>(World.drew V).heap.size<=j/\j<c.heap.size) (.iface t y) d)/\qad c b {s with pos:=q,within:=wi}from g)
    simp only[];have E:c.cell? ⟨W.heap.size+1,0,none⟩=some (.slice r w v):=qaa ((f.block _ J (by omega)).trans m) 0;have hrel:But b (World.drew V) c/\qad c b {s with pos:=q,within:=wi}/\qai k c (λj=>(World.drew V).heap.size<=j/\j<c.heap.size) (.iface t y) d:=⟨f,n,o⟩
    refine a _ _ ?_;refine rd1 3 rfl (by kernel_rfl) (λK a=>?_);go_simp;refine a _ _ ?_;exact H ⟨t,y,c⟩ hrel
   go_simp;refine a _ _ ?_;refine rd2 0 2 rfl rfl (by kernel_rfl) (λK a=>?_) (λK a=>?_)
   ·go_simp;refine a _ _ ?_;refine rd1 2 rfl (by kernel_rfl) (λK a=>?_);go_simp;refine(l _ C i).mono ?_;rintro e c ⟨f,g⟩;obtain⟨⟨t,y,rfl,o⟩,n⟩:=(show(∃t y,e=.returned (.iface t y)/\qai k c (λj=>(World.drew V).heap.size<=j/\j<c.heap.size) (.iface t y) d)/\qad c b {s with pos:=q,within:=wi}from g)
    simp only[];have E:c.cell? ⟨W.heap.size+1,0,none⟩=some (.slice r w v):=qaa ((f.block _ J (by omega)).trans m) 0;have hrel:But b (World.drew V) c/\qad c b {s with pos:=q,within:=wi}/\qai k c (λj=>(World.drew V).heap.size<=j/\j<c.heap.size) (.iface t y) d:=⟨f,n,o⟩
    refine a _ _ ?_;refine rd1 3 rfl (by kernel_rfl) (λK a=>?_);go_simp;refine a _ _ ?_;exact H ⟨t,y,c⟩ hrel
   go_simp;refine(l _ C i).mono ?_;rintro e c ⟨f,g⟩;obtain⟨⟨t,y,rfl,o⟩,n⟩:=(show(∃t y,e=.returned (.iface t y)/\qai k c (λj=>(World.drew V).heap.size<=j/\j<c.heap.size) (.iface t y) d)/\qad c b {s with pos:=q,within:=wi}from g)
   simp only[];have E:c.cell? ⟨W.heap.size+1,0,none⟩=some (.slice r w v):=qaa ((f.block _ J (by omega)).trans m) 0;have hrel:But b (World.drew V) c/\qad c b {s with pos:=q,within:=wi}/\qai k c (λj=>(World.drew V).heap.size<=j/\j<c.heap.size) (.iface t y) d:=⟨f,n,o⟩
   refine a _ _ ?_;refine rd2 0 3 rfl rfl (by kernel_rfl) (λK a=>?_) (λK a=>?_)
   ·go_simp;refine a _ _ ?_;refine rd1 3 rfl (by kernel_rfl) (λK a=>?_);go_simp;refine a _ _ ?_;exact H ⟨t,y,c⟩ hrel
   go_simp;refine a _ _ ?_;refine rd1 0 rfl (by kernel_rfl) (λK a=>?_);have c4:(c.alloc (.cells #[.iface t y] 82)).cell? ⟨W.heap.size+1,0,none⟩=some (.slice r w v):=(World.cell?_alloc_some c _ _ (by rw[E];rfl)).trans E;go_simp;refine a _ _ ?_;exact H ⟨t,y,c⟩ hrel
  case tail =>
   rintro⟨t,y,c⟩ ⟨f,n,o⟩;simp only[]at f n o ⊢;have G:=(But.of_below (Below.refl _ _).drew).trans f;have aa:=qdb L G (by omega);have ap:=Nat.le_trans af G.size;simp only[List.foldl];refine rd1 4 rfl (by kernel_rfl) (λK a=>?_);rw[if_pos (by rfl)];refine qdp _ _ 194 rfl (W.heap.size+2) 82 i0 .nilIface 1 16 underlying194 hi ai aj ak rfl (by decide) _ _ _ rfl (aa.alloc _) ⟨c.heap.size,0,none⟩ 1 1 [.iface t y] rfl rfl (qag _ _ _) (λaq U=>by simp at U;subst U;rfl) (by decide) (by unfold maxLen;omega) (by omega) (by simp;omega) ?_;intro v' X T S ag;have u:=h.push O ab G n o m L ad ah T S ag (by have:=h.len;omega);have R:=(S.block _ (by simp;omega) (λe=>by have:=qbE L e.symm;omega)).trans ((Below.heap_alloc _ _ _ (by omega)).trans ((G.block _ (ltA m) (by omega)).trans m));have c5:X.cell? ⟨W.heap.size+1,0,none⟩=some (.slice r w v):=qaa R 0;have f5:=frozen_of_row X _ 0 _ _ R;obtain⟨g5,al,rfl⟩:=ownsRow_succ T;refine a _ _ ?_;refine rd1 5 rfl (by kernel_rfl) (λK a=>?_);go_simp;refine a _ _ ?_;refine wpAny_done (by kernel_rfl) ?_ _;go_end0;exact⟨rfl,u⟩

theorem qe4(bs:List UInt8)(lim:Int):∀(g p c:Nat) (b l:List UInt8) (r:Nat),qcT bs lim g p b c=.ok (l,r)->p<r/\l.length+4*p<=b.length+4*r
 |0,p,c,b,l,r,h=>by rw[qcT]at h;cases h
 |g+1,p,c,b,l,r,h=>by
  rw[qcT]at h;split at h
  ·cases h
  split at h
  ·cases h
  split at h
  ·injection h with h;injection h with a d;subst a;omega
  split at h
  ·split at h
   ·cases h
   next rr q hq =>
   have a:=qe4 bs lim g q _ _ l r h;have d:=(qkQ hq).2;have e:=(qcl rr).2;rw[List.length_append]at a;omega
  split at h
  ·cases h
  split at h
  ·cases h
  have a:=qe4 bs lim g (p+1) _ _ l r h;rw[List.length_append]at a;simp at a;omega
theorem qck(bs:List UInt8)(lim:Int):∀(l:List UInt8) (p:Nat) (u:Unit) (q:Nat),qaQ bs lim l p=.ok (u,q)->q=p+l.length
 |[],p,u,q,h=>by
  rw[qaQ]at h;injection h with h;injection h with h1 h2;simp[h2]
 |x::xs,p,u,q,h=>by
  rw[qaQ]at h;split at h
  ·cases h
  split at h
  ·cases h
  split at h
  ·have:=qck bs lim xs (p+1) u q h;simp;omega
  cases h
theorem qpG{bs:List UInt8}{lim:Int}{l:List UInt8}(h:qlm bs lim ks p=.ok (l,q)):p<q:=by
 unfold qlm at h;split at h
 ·cases h
 next u q1 h1 =>
 split at h
 ·cases h
 next l' r h2 =>
 split at h
 ·cases h
 injection h with h;injection h with h3 h4;have:=qck _ _ _ _ _ _ h1;have:=qe4 _ _ _ _ _ _ _ _ h2;omega
def qki(W:World)(b m:Nat)(s:Src)(ks:List (List UInt8))(r:Except (Int×Int) (List UInt8×Nat))(e:Ending)(W':World):Prop :=
 qjD b m W W'/\match r with
 |.ok (l,p)=>e=.returned (.string ⟨l.toArray⟩)/\qad W' b {s with pos:=p}/\qaL W' m (l::ks)
 |.error (en,pl)=>qan en pl e
theorem qk0(W:World)(b m:Nat)(s:Src)(ks:List (List UInt8))(h:qad W b s)(hk:qaL W m ks)(S:m≠b)(ab:∀g off,s.bs≠[]->s.ia=some ⟨g,off,none⟩->g≠m)(ac:ks.length<1000000000)(ad:s.bs.length<=200000000)(hU:∀V,But b W V->U8 V)(h7:7<b):Calls prog 204 #[.agg #[.pointer (some ⟨b,0,none⟩)],.map (some m)] W (qki W b m s ks (qlm s.bs s.lim ks s.pos)):=by
 have o:=qab (qaX h);have t:=qbB _ b s [34] (by simp) o.out.src;have u:∀(V:World) (p:Nat),qad V b {s with pos:=p}->But b W V->Calls prog 191 #[.agg #[.pointer (some ⟨b,0,none⟩)]] V (qbU V b {s with pos:=p} (λl:List UInt8=>.string ⟨l.toArray⟩) (qcT s.bs s.lim (s.bs.length+1-p) p [] 0)):=λV p n L=>qf4 V b {s with pos:=p} n (hU V L) h7 ad;have Y:∀(V:World) (p:Nat),qad V b {s with pos:=p}->Calls prog 187 #[.pointer (some ⟨b,0,none⟩),.int .i64 12] V λe X=>qan 12 ((p:Int)-1) e/\X=V:=λV p n=>qau V b {s with pos:=p} 12 n;have O:Hid (∀V,But b W V->qaL V m ks):=λV n=>hk.but S n;have U:Hid (∀V H p,qad V b {s with pos:=p}->But m V H->qad H b {s with pos:=p}):=λV H p n L=>n.off S ab L;obtain⟨R,P⟩:∃R,Hid (qlm s.bs s.lim ks s.pos=R):=⟨_,show _=_ from rfl⟩
 rw[P.out];have a:=P.out;unfold qlm at a;have v:=qaa o.out.box 0
 cases Q:qaQ s.bs s.lim [34] s.pos with
 |error K =>
  rw[Q]at a t;simp only[]at a;subst a;obtain⟨J,N⟩:=K;go_enter func204,ntmps204
  go_wp2_with(first
   |(go_at_call 190;refine t.mono ?_;rintro e f ⟨j,k⟩;obtain rfl:=(show qan J N e from k)))
  exact⟨rfl,.of1 (o.out.but.trans j),rfl⟩
 |ok uq =>
  obtain⟨af,q⟩:=uq;rw[Q]at a t;simp only[]at a;have w:=λI (hs:qad I b {s with pos:=q}) (hb:But b W I)=>u I q hs hb
  cases M:qcT s.bs s.lim (s.bs.length+1-q) q [] 0 with
  |error K =>
   rw[M]at a w;simp only[]at a;subst a;obtain⟨J,N⟩:=K;go_enter func204,ntmps204
   go_wp2_with(first
    |(go_at_call 190;refine t.mono ?_;rintro e f ⟨j,k⟩;obtain⟨rfl,B⟩:=(show e=.returned (.tuple #[])/\qad f b {s with pos:=q}from k);have c:=qab (o.out.step B j);have v:=qaa c.out.box 0;have x:=w f c.out.src c.out.but)
    |(go_at_call 191;refine x.mono ?_;rintro e i ⟨y,A⟩;obtain rfl:=(show qan J N e from A)))
   exact⟨rfl,.of1 (c.out.but.trans y),rfl⟩
  |ok lr =>
   obtain⟨l,r⟩:=lr;rw[M]at a w;simp only[]at a;have ae:=qe4 _ _ _ _ _ _ _ _ M;simp only[List.length_nil,Nat.zero_add]at ae;by_cases D:l∈ks
   ·rw[if_pos D]at a;subst a;have E:=qab D;go_enter func204,ntmps204
    go_wp2_with(first
     |(go_at_call 190;refine t.mono ?_;rintro e f ⟨j,k⟩;obtain⟨rfl,B⟩:=(show e=.returned (.tuple #[])/\qad f b {s with pos:=q}from k);have c:=qab (o.out.step B j);have v:=qaa c.out.box 0;have x:=w f c.out.src c.out.but)
     |(go_at_call 191;refine x.mono ?_;rintro e i ⟨y,A⟩;obtain⟨rfl,C⟩:=(show e=.returned (.string ⟨l.toArray⟩)/\qad i b {s with pos:=r}from A);have d:=qab (c.out.step C y);have F:Hid (l.length<=1000000000):=(show _<=_ from by have h1:r<=s.bs.length:=C.le;omega);have v:=qaa d.out.box 0)
     |(go_at_call 210;refine(qib i m ks l (O.out i d.out.but) E.out F.out).mono ?_;rintro e T ⟨rfl,z⟩;have G:=qab (d.out.step (d.out.src.below z) (But.of_below z));have v:=qaa G.out.box 0;have Z:=Y T r G.out.src)
     |(go_at_call 187;refine Z.mono ?_;rintro e w8 ⟨hF,rfl⟩;obtain rfl:=hF))
    exact⟨rfl,.of1 G.out.but,rfl⟩
   rw[if_neg D]at a;subst a;have E:=qab D;go_enter func204,ntmps204
   go_wp2_with(first
    |(go_at_call 190;refine t.mono ?_;rintro e f ⟨j,k⟩;obtain⟨rfl,B⟩:=(show e=.returned (.tuple #[])/\qad f b {s with pos:=q}from k);have c:=qab (o.out.step B j);have v:=qaa c.out.box 0;have x:=w f c.out.src c.out.but)
    |(go_at_call 191;refine x.mono ?_;rintro e i ⟨y,A⟩;obtain⟨rfl,C⟩:=(show e=.returned (.string ⟨l.toArray⟩)/\qad i b {s with pos:=r}from A);have d:=qab (c.out.step C y);have F:Hid (l.length<=1000000000):=(show _<=_ from by have h1:r<=s.bs.length:=C.le;omega);have v:=qaa d.out.box 0)
    |(go_at_call 210;refine(qmQ i m ks l (O.out i d.out.but) E.out ac F.out).mono ?_;rintro e T ⟨rfl,aa,z⟩))
   go_ret;exact⟨(qjD.of1 d.out.but).trans (qjD.of2 z),rfl,U.out _ _ _ d.out.src z,aa⟩

structure qgj(k:Nat)(W:World)(b:Nat)(s:Src)(N wi p:Nat)(a:List (List UInt8)×List (Lit×DataW Unit))(V:World):Prop where
 src:qad V b {s with pos:=p,within:=wi}
 but:But b W V
 rbox:V.heap[W.heap.size]?=some (.cells #[.pointer (some ⟨b,0,none⟩)] 130)
 kbox:V.heap[W.heap.size+3]?=some (.cells #[.map (some (W.heap.size+2))] 308)
 keys:qaL V (W.heap.size+2) a.1
 box:V.heap[N]?=some (.cells #[.pointer (some ⟨b,0,none⟩)] 130)
 hN:W.heap.size+4<=N
 own:∃ad l c xs,V.heap[W.heap.size+1]?=some (.cells #[.slice ad l c] 196)/\V.ownsRow (W.heap.size+4) 198 2 (.slice ad l c) a.2.length xs/\some N≠(Value.slice ad l c).ownBlock/\qc1 k V (λj=>W.heap.size+4<=j/\j<V.heap.size/\some j≠(Value.slice ad l c).ownBlock) xs a.2
 size:W.heap.size+4<=V.heap.size
 len:a.2.length<=p/\a.1.length<=p
theorem qgj.step(h:qgj k W b s N wi p a V)(w:b<W.heap.size)(t:qad V' b {s with pos:=q,within:=wi' })(d:qjD b (W.heap.size+2) V V')(o:qaL V' (W.heap.size+2) ks)(r:a.2.length<=q/\ks.length<=q):qgj k W b s N wi' q (ks,a.2) V':=by
 obtain⟨g,l,c,u,f,i,m,n⟩:=h.own;have x:=h.size;have v:=h.hN;exact⟨t,h.but.trans' d,(d.block _ (ltA h.rbox) (by omega) (by omega)).trans h.rbox,(d.block _ (ltA h.kbox) (by omega) (by omega)).trans h.kbox,o,(d.block _ (ltA h.box) (by omega) (by omega)).trans h.box,h.hN,⟨g,l,c,u,(d.block _ (ltA f) (by omega) (by omega)).trans f,qfA i d (by omega) (by omega),m,n.same (λj e=>⟨e.1,Nat.lt_of_lt_of_le e.2.1 d.size,e.2.2⟩) (λj e=>d.block j e.2.1 (by omega) (by omega))⟩,Nat.le_trans h.size d.size,r⟩
theorem qgj.go'(h:qgj k W b s N wi p a V)(d:b<W.heap.size)(f:qad V' b {s with pos:=q,within:=wi' })(c:But b V V')(e:a.2.length<=q/\a.1.length<=q):qgj k W b s N wi' q a V' :=
 h.step (ks:=a.1) d f (.of1 c) (h.keys.but (by omega) c) e
theorem qgj.go(h:qgj k W b s N wi p a V)(d:b<W.heap.size)(e:qad V' b {s with pos:=q,within:=wi' })(c:But b V V')(f:p<=q):qgj k W b s N wi' q a V' :=
 h.go' d e c ⟨by have:=h.len.1;omega,by have:=h.len.2;omega⟩
theorem qgj.push{es:List (Lit×DataW Unit)}{key:List UInt8}{a:Option Addr}(h:qgj k W b s N wi p (ks,es) V)(S:qad W b s)(hb:b<W.heap.size)(m:But b V V3)(hS:qad V3 b {s with pos:=q,within:=wi})(hd:qai k V3 (λj=>V.heap.size<=j/\j<V3.heap.size) x d)(H:V.heap[W.heap.size+1]?=some (.cells #[.slice a l c] 196))(F:V.ownsRow (W.heap.size+4) 198 2 (.slice a l c) es.length xs)(I:some N≠(Value.slice a l c).ownBlock)(af:qc1 k V (λj=>W.heap.size+4<=j/\j<V.heap.size/\some j≠(Value.slice a l c).ownBlock) xs es)(G:w5.ownsRow (W.heap.size+4) 198 2 v' (es.length+1) (xs++[.string ⟨key.toArray⟩,x]))(n:(V3.alloc (.cells #[.string ⟨key.toArray⟩,x] 198)).grownBy w5 (Value.slice a l c).ownBlock)(t:v'.ownBlock=(Value.slice a l c).ownBlock\/v'.ownBlock=some (V3.alloc (.cells #[.string ⟨key.toArray⟩,x] 198)).heap.size)(ac:es.length+1<=q)(ad:ks.length<=q):qgj k W b s N wi q (ks,es++[(.string key,d)]) (w5.setCell ⟨W.heap.size+1,0,none⟩ v'):=by
 have ak:=h.size;have hN:=h.hN;have Z:=ltA h.box;have ai:=m.size;have aj:V3.heap.size+1<=w5.heap.size:=by have:=n.size;simpa using this
 have C:∀g,(Value.slice a l c).ownBlock=some g->W.heap.size+4<=g:=λg n=>qbE F n;have ag:∀g,(Value.slice a l c).ownBlock=some g->g<V.heap.size:=qid F;have u:∀j,j<V3.heap.size->some j≠(Value.slice a l c).ownBlock->j≠W.heap.size+1->(w5.setCell ⟨W.heap.size+1,0,none⟩ v').heap[j]?=V3.heap[j]?:=λj f r D=>(heap_setCell_other w5 _ _ _ (by simpa using D)).trans ((n.block j (by simp;omega) r).trans (Below.heap_alloc _ _ _ f));have v:∀j,j<W.heap.size+4->j≠W.heap.size+1->(w5.setCell ⟨W.heap.size+1,0,none⟩ v').heap[j]?=V3.heap[j]?:=λj f D=>u j (by omega) (λe=>by have:=C j e.symm;omega) D;have Y:w5.heap[W.heap.size+1]?=some (.cells #[.slice a l c] 196):=(n.block _ (by simp;omega) (λe=>by have:=C _ e.symm;omega)).trans ((Below.heap_alloc _ _ _ (by omega)).trans ((m.block _ (ltA H) (by omega)).trans H));have w:(w5.setCell ⟨W.heap.size+1,0,none⟩ v').heap.size=w5.heap.size:=by simp[World.setCell]
 have ab:qaL (w5.setCell ⟨W.heap.size+1,0,none⟩ v') (W.heap.size+2) ks:=by
  have T:qaL V3 (W.heap.size+2) ks:=h.keys.but (by omega) m;have B:qaL (V3.alloc (.cells #[.string ⟨key.toArray⟩,x] 198)) (W.heap.size+2) ks:=T.but (b:=W.heap.size+1) (by omega) (But.of_below bwA);have U:qaL w5 (W.heap.size+2) ks:=B.kept n (λe=>by have:=C _ e.symm;omega);exact U.but (b:=W.heap.size+1) (by omega) ⟨rfl,rfl,rfl,by simp[World.setCell],λj _ f=>heap_setCell_other w5 _ _ _ (by simpa using f)⟩
 obtain⟨A,z,rfl⟩:=ownsRow_succ G;have ae:(w5.setCell ⟨W.heap.size+1,0,none⟩ (.slice (some ⟨A,0,none⟩) (es.length+1) z)).ownsRow (W.heap.size+4) 198 2 (.slice (some ⟨A,0,none⟩) (es.length+1) z) (es.length+1) (xs++[.string ⟨key.toArray⟩,x]):=by
  refine⟨G.1,?_⟩;rcases G.2 with B|⟨g,K,L,e,y,aa,X⟩
  ·exact .inl B
  exact .inr ⟨g,K,L,e,y,(heap_setCell_other w5 _ _ _ (by simp;omega)).trans aa,X⟩
 have E:∀j,j<V3.heap.size->some j≠(Value.slice a l c).ownBlock->some j≠(Value.slice (some ⟨A,0,none⟩) (es.length+1) z).ownBlock:=λj f r=>by
  rcases t with t|t
  ·rw[t];exact r
  rw[t];intro e;injection e with e;simp at e;omega
 refine⟨S.same rfl rfl hS (λj f=>v j (by omega) (by omega)),⟨n.os.trans (m.os.trans h.but.os),n.tape.trans (m.tape.trans h.but.tape),n.output.trans (m.output.trans h.but.output),by rw[w];have:=h.but.size;omega,λj f r=>(v j (by omega) (by omega)).trans ((m.block j (by omega) r).trans (h.but.block j f r))⟩,(v _ (by omega) (by omega)).trans ((m.block _ (by omega) (by omega)).trans h.rbox),(v _ (by omega) (by omega)).trans ((m.block _ (by omega) (by omega)).trans h.kbox),ab,(u N (by omega) I (by omega)).trans ((m.block N Z (by omega)).trans h.box),h.hN,⟨_,_,_,_,?_,by rw[List.length_append];exact ae,?_,λi ah M o=>?_⟩,by rw[w];omega,⟨by rw[List.length_append];exact ac,ad⟩⟩
 ·rw[heap_setCell_same _ _ _ _ _ _ Y];rfl
 ·exact E N (by omega) I
 have al:xs.length=es.length*2:=F.1;by_cases hi:i<es.length
 ·rw[List.getElem?_append_left hi]at o;obtain⟨l',x',O,P,Q,R⟩:=af i ah M o;refine⟨l',x',O,by rw[List.getElem?_append_left (by omega)];exact P,by rw[List.getElem?_append_left (by omega)];exact Q,?_⟩;exact R.same (λj f=>⟨f.1,by rw[w];have:=f.2.1;omega,E j (by omega) f.2.2⟩) (λj f=>(u j (by omega) f.2.2 (by omega)).trans (m.block j f.2.1 (by omega)))
 have e:i=es.length:=by
  have:=ltL o;rw[List.length_append]at this;simp at this;omega
 subst e;rw[List.getElem?_append_right (by omega)]at o;simp at o;obtain⟨rfl,rfl⟩:=o;have J:∀j,V.heap.size<=j->some j≠(Value.slice a l c).ownBlock:=λj f e=>by have:=ag j e.symm;omega
 refine⟨key,x,rfl,?_,?_,hd.same (λj f=>⟨by omega,by rw[w];omega,E j f.2 (J j f.1)⟩) (λj f=>u j f.2 (J j f.1) (by omega))⟩
 ·rw[List.getElem?_append_right (by omega),show 2*es.length-xs.length=0 by omega];rfl
 rw[List.getElem?_append_right (by omega),show 2*es.length+1-xs.length=1 by omega];rfl
theorem qtB(k:Nat)(W:World)(b:Nat)(s:Src)(wi:Nat)(Z:Nat->Except (Int×Int) (DataW Unit×Nat))(h0:qad W b s)(az:qgC k b {s with within:=wi} W Z)(a3:∀p d q,Z p=.ok (d,q)->p<q)(a4:s.bs.length<=200000000)(hU:∀V,But b W V->U8 V)(h7:7<b)(N p:Nat)(a:List (List UInt8)×List (Lit×DataW Unit))(V:World)(h:qgj k W b s N wi p a V):Calls prog 203 #[.pointer (some ⟨W.heap.size,0,none⟩),.pointer (some ⟨W.heap.size+3,0,none⟩),.pointer (some ⟨W.heap.size+1,0,none⟩)] V (qcP (qgj k W b s N wi) (λV=>But b W V) (enJ s.bs s.lim Z a p)):=by
 obtain⟨i0,hi,ba,bb,bc⟩:=info_parts Tryz.infoEntry;have ad:b<W.heap.size:=ltA h0.row;have ax:∀ah off,s.bs≠[]->s.ia=some ⟨ah,off,none⟩->ah≠W.heap.size+2:=λah off am e=>by
  have hl:0<s.bs.length:=by cases a2:s.bs with|nil=>exact absurd a2 am|cons _ _=>simp
  obtain⟨g',bi,e1,_,e3⟩:=h0.inp 0 hl;rw[e]at e1;injection e1 with e1;injection e1 with e1;have:g'<W.heap.size:=block_lt_of_cell e3;omega
 have H:Hid (qgj k W b s N wi p a V):=h;have cK:Calls prog 204 #[.agg #[.pointer (some ⟨b,0,none⟩)],.map (some (W.heap.size+2))] V (qki V b (W.heap.size+2) {s with pos:=p,within:=wi} a.1 (qlm s.bs s.lim a.1 p)):=qk0 V b (W.heap.size+2) {s with pos:=p,within:=wi} a.1 h.src h.keys (by omega) ax (by have z:=h.len.2;have D:p<=s.bs.length:=h.src.le;omega) a4 (λw h9=>hU w (h.but.trans h9)) h7;have cS:∀(V:World) (p:Nat),qad V b {s with pos:=p,within:=wi}->Calls prog 189 #[.agg #[.pointer (some ⟨b,0,none⟩)]] V (qbU V b {s with pos:=p,within:=wi} (λ_:Unit=>.tuple #[]) (spF s.bs s.lim (s.bs.length+1-p) p)):=λV p hV=>qaT V b {s with pos:=p,within:=wi} hV;have cR:∀(V:World) (p:Nat),qad V b {s with pos:=p,within:=wi}->Calls prog 190 #[.agg #[.pointer (some ⟨b,0,none⟩)],.string ⟨#[58]⟩] V (qbU V b {s with pos:=p,within:=wi} (λ_:Unit=>.tuple #[]) (qaQ s.bs s.lim [58] p)):=λV p hV=>qbB V b {s with pos:=p,within:=wi} [58] (by simp) hV;have ag:∀(w:World) (q:Nat),qad w b {s with pos:=q,within:=wi}->But b W w->Calls prog 188 #[.agg #[.pointer (some ⟨b,0,none⟩)]] w (qcj k w b {s with pos:=q,within:=wi} (Z q)):=λw q z D=>az w q z D;have T:=qaa h.rbox 0;have k2:=qaa h.kbox 0;clear h az hU ax;obtain⟨ao,HR⟩:∃ao,Hid (enJ s.bs s.lim Z a p=ao):=⟨_,show _=_ from rfl⟩
 rw[HR.out];have o:=HR.out;unfold enJ at o;clear HR;go_enter func203,ntmps203
 go_wp2_with fail
 refine cK.mono ?_;clear cK;rintro e w1 ⟨ai,aa⟩
 cases z:qlm s.bs s.lim a.1 p with
 |error L =>
  obtain⟨C,G⟩:=L;simp only[z]at o aa;subst o;clear z cS cR ag;obtain rfl:=(show qan C G e from aa)
  go_wp2;exact⟨rfl,rfl,H.out.but.trans' ai⟩
 |ok lq =>
  obtain⟨r,q1⟩:=lq;have bf:=qpG z;simp only[z]at o aa;clear z;obtain⟨rfl,ar,ap⟩:=(show e=.returned (.string ⟨r.toArray⟩)/\qad w1 b {s with pos:=q1,within:=wi}/\qaL w1 (W.heap.size+2) (r::a.1)from aa)
  have u:Hid (qgj k W b s N wi q1 (r::a.1,a.2) w1):=H.out.step ad ar ai ap ⟨by have:=H.out.len.1;omega,by have:=H.out.len.2;rw[List.length_cons];omega⟩;clear H ar ai ap aa T k2;have T:=qaa u.out.rbox 0
  go_wp2_with fail
  refine(cS w1 q1 u.out.src).mono ?_;rintro e w2 ⟨aj,ab⟩
  cases D:spF s.bs s.lim (s.bs.length+1-q1) q1 with
  |error L =>
   obtain⟨C,G⟩:=L;simp only[D]at o ab;subst o;clear D;obtain rfl:=(show qan C G e from ab)
   go_wp2;exact⟨rfl,rfl,u.out.but.trans aj⟩
  |ok uq =>
   obtain⟨u2,q2⟩:=uq;have a5:=qc6 _ _ _ _ _ _ D;simp only[D]at o ab;clear D;obtain⟨rfl,au⟩:=(show e=.returned (.tuple #[])/\qad w2 b {s with pos:=q2,within:=wi}from ab)
   have R:Hid (qgj k W b s N wi q2 (r::a.1,a.2) w2):=u.out.go ad au aj a5;clear u au aj ab T;have T:=qaa R.out.rbox 0
   go_wp2_with fail
   refine(cR w2 q2 R.out.src).mono ?_;rintro e f ⟨m,n⟩
   cases h3:qaQ s.bs s.lim [58] q2 with
   |error L =>
    obtain⟨C,G⟩:=L;simp only[h3]at o n;subst o;clear h3;obtain rfl:=(show qan C G e from n)
    go_wp2;exact⟨rfl,rfl,R.out.but.trans m⟩
   |ok uq =>
    obtain⟨u3,Y⟩:=uq;have a6:q2<=Y:=by have:=qck _ _ _ _ _ _ h3;omega
    simp only[h3]at o n;clear h3;obtain⟨rfl,E⟩:=(show e=.returned (.tuple #[])/\qad f b {s with pos:=Y,within:=wi}from n)
    have g:Hid (qgj k W b s N wi Y (r::a.1,a.2) f):=R.out.go ad E m a6;clear R E m n T;have T:=qaa g.out.rbox 0
    go_wp2_with fail
    refine(cS f Y g.out.src).mono ?_;rintro e l ⟨ak,ac⟩
    cases h4:spF s.bs s.lim (s.bs.length+1-Y) Y with
    |error L =>
     obtain⟨C,G⟩:=L;simp only[h4]at o ac;subst o;clear h4;obtain rfl:=(show qan C G e from ac)
     go_wp2;exact⟨rfl,rfl,g.out.but.trans ak⟩
    |ok uq =>
     obtain⟨u4,I⟩:=uq;have a7:=qc6 _ _ _ _ _ _ h4;simp only[h4]at o ac;clear h4;obtain⟨rfl,av⟩:=(show e=.returned (.tuple #[])/\qad l b {s with pos:=I,within:=wi}from ac)
     have J:Hid (qgj k W b s N wi I (r::a.1,a.2) l):=g.out.go ad av ak a7;clear g av ak ac T
     go_wp2_with fail
     have P:=λw (z:qad w b {s with pos:=I,within:=wi}) (D:But b W w)=>ag w I z D;clear ag;obtain⟨A,F,B,xs,Q,ho,am,an⟩:=J.out.own;have ho:l.ownsRow (W.heap.size+4) 198 2 (.slice A F B) a.2.length xs:=ho;have an:qc1 k l (λj=>W.heap.size+4<=j/\j<l.heap.size/\some j≠(Value.slice A F B).ownBlock) xs a.2:=an;have al:W.heap.size+1<(World.drew l).heap.size:=ltA Q;have X:qad (World.drew l) b {s with pos:=I,within:=wi}:=J.out.src.below (Below.refl _ _).drew;have M:But b W (World.drew l):=J.out.but.trans (But.of_below (Below.refl _ _).drew);have k0:(World.drew l).cell? ⟨W.heap.size+1,0,none⟩=some (.slice A F B):=qaa Q 0;have T:(World.drew l).cell? ⟨W.heap.size,0,none⟩=some (.pointer (some ⟨b,0,none⟩)):=qaa J.out.rbox 0;have a8:=J.out.size;refine wp_region_any (by kernel_rfl) ?_;change wpAny _ _ _ _ _ _ _ (World.drew l);refine wpAny_take (i:=1) (v:=.string ⟨r.toArray⟩) rfl (by kernel_rfl) (by kernel_rfl) (by kernel_rfl) (λ_ _ _ h=>h) (.inl ⟨rfl,λw=>rfl⟩) ?_
     cases U:Z I with
     |error L =>
      obtain⟨C,G⟩:=L;simp only[U]at o;subst o;rw[U]at P;clear U;refine rd2 0 2 rfl rfl (by kernel_rfl) (λK c=>?_) (λK c=>?_)
      ·go_simp;refine c _ _ ?_;clear c;refine rd1 2 rfl (by kernel_rfl) (λK c=>?_);go_simp;refine c _ _ ?_;clear c;refine rd1 3 rfl (by kernel_rfl) (λK c=>?_);go_simp;refine(P _ X M).mono ?_;rintro e f ⟨m,n⟩;obtain rfl:=(show qan C G e from n)
       exact⟨rfl,rfl,M.trans m⟩
      go_simp;refine c _ _ ?_;clear c;refine rd2 0 3 rfl rfl (by kernel_rfl) (λK c=>?_) (λK c=>?_)
      ·go_simp;refine c _ _ ?_;clear c;refine rd1 3 rfl (by kernel_rfl) (λK c=>?_);go_simp;refine(P _ X M).mono ?_;rintro e f ⟨m,n⟩;obtain rfl:=(show qan C G e from n)
       exact⟨rfl,rfl,M.trans m⟩
      go_simp;refine(P _ X M).mono ?_;rintro e f ⟨m,n⟩;obtain rfl:=(show qan C G e from n)
      exact⟨rfl,rfl,M.trans m⟩
     |ok dq =>
      obtain⟨d,O⟩:=dq;have bg:=a3 I d O U;simp only[U]at o;subst o;rw[U]at P;clear U;have be:a.2.length<=200000000:=by have z:a.2.length<=I:=J.out.len.1;have D:I<=s.bs.length:=J.out.src.le;omega
      refine qiO (β:=TypeId×Value×World) #[true,true,true,true,true,true,false,false] 2 (λx=>[(13,.slice A F B),(15,.agg #[.pointer (some ⟨b,0,none⟩)]),(16,.iface x.1 x.2.1),(17,.agg #[.string ⟨r.toArray⟩,.iface x.1 x.2.1]),(18,.slice (some ⟨x.2.2.heap.size,0,none⟩) 1 1)]) (λx=>But b (World.drew l) x.2.2/\qad x.2.2 b {s with pos:=O,within:=wi}/\qai k x.2.2 (λj=>(World.drew l).heap.size<=j/\j<x.2.2.heap.size) (.iface x.1 x.2.1) d) (λx=>x.2.2.alloc (.cells #[.string ⟨r.toArray⟩,.iface x.1 x.2.1] 198)) (λae=>?reg) ?tail
      case reg =>
       refine rd2 0 2 rfl rfl (by kernel_rfl) (λK c=>?_) (λK c=>?_)
       ·go_simp;refine c _ _ ?_;clear c;refine rd1 2 rfl (by kernel_rfl) (λK c=>?_);go_simp;refine c _ _ ?_;clear c;refine rd1 3 rfl (by kernel_rfl) (λK c=>?_);go_simp;refine(P _ X M).mono ?_;rintro e f ⟨m,n⟩;obtain⟨⟨t,y,rfl,S⟩,E⟩:=(show(∃t y,e=.returned (.iface t y)/\qai k f (λj=>(World.drew l).heap.size<=j/\j<f.heap.size) (.iface t y) d)/\qad f b {s with pos:=O,within:=wi}from n)
        simp only[];have c3:f.cell? ⟨W.heap.size+1,0,none⟩=some (.slice A F B):=qaa ((m.block _ al (by omega)).trans Q) 0;have hrel:But b (World.drew l) f/\qad f b {s with pos:=O,within:=wi}/\qai k f (λj=>(World.drew l).heap.size<=j/\j<f.heap.size) (.iface t y) d:=⟨m,E,S⟩
        refine c _ _ ?_;clear c;refine rd1 4 rfl (by kernel_rfl) (λK c=>?_);go_simp;refine c _ _ ?_;clear c;refine rd1 5 rfl (by kernel_rfl) (λK c=>?_);go_simp;refine c _ _ ?_;clear c;exact ae ⟨t,y,f⟩ hrel
       go_simp;refine c _ _ ?_;clear c;refine rd2 0 3 rfl rfl (by kernel_rfl) (λK c=>?_) (λK c=>?_)
       ·go_simp;refine c _ _ ?_;clear c;refine rd1 3 rfl (by kernel_rfl) (λK c=>?_);go_simp;refine(P _ X M).mono ?_;rintro e f ⟨m,n⟩;obtain⟨⟨t,y,rfl,S⟩,E⟩:=(show(∃t y,e=.returned (.iface t y)/\qai k f (λj=>(World.drew l).heap.size<=j/\j<f.heap.size) (.iface t y) d)/\qad f b {s with pos:=O,within:=wi}from n)
        simp only[];have c3:f.cell? ⟨W.heap.size+1,0,none⟩=some (.slice A F B):=qaa ((m.block _ al (by omega)).trans Q) 0;have hrel:But b (World.drew l) f/\qad f b {s with pos:=O,within:=wi}/\qai k f (λj=>(World.drew l).heap.size<=j/\j<f.heap.size) (.iface t y) d:=⟨m,E,S⟩
        refine c _ _ ?_;clear c;refine rd1 4 rfl (by kernel_rfl) (λK c=>?_);go_simp;refine c _ _ ?_;clear c;refine rd1 5 rfl (by kernel_rfl) (λK c=>?_);go_simp;refine c _ _ ?_;clear c;exact ae ⟨t,y,f⟩ hrel
       go_simp;refine(P _ X M).mono ?_;rintro e f ⟨m,n⟩;obtain⟨⟨t,y,rfl,S⟩,E⟩:=(show(∃t y,e=.returned (.iface t y)/\qai k f (λj=>(World.drew l).heap.size<=j/\j<f.heap.size) (.iface t y) d)/\qad f b {s with pos:=O,within:=wi}from n)
       simp only[];have c3:f.cell? ⟨W.heap.size+1,0,none⟩=some (.slice A F B):=qaa ((m.block _ al (by omega)).trans Q) 0;have hrel:But b (World.drew l) f/\qad f b {s with pos:=O,within:=wi}/\qai k f (λj=>(World.drew l).heap.size<=j/\j<f.heap.size) (.iface t y) d:=⟨m,E,S⟩
       refine c _ _ ?_;clear c;refine rd2 0 4 rfl rfl (by kernel_rfl) (λK c=>?_) (λK c=>?_)
       ·go_simp;refine c _ _ ?_;clear c;refine rd1 4 rfl (by kernel_rfl) (λK c=>?_);go_simp;refine c _ _ ?_;clear c;refine rd1 5 rfl (by kernel_rfl) (λK c=>?_);go_simp;refine c _ _ ?_;clear c;exact ae ⟨t,y,f⟩ hrel
       go_simp;refine c _ _ ?_;clear c;refine rd2 0 5 rfl rfl (by kernel_rfl) (λK c=>?_) (λK c=>?_)
       ·go_simp;refine c _ _ ?_;clear c;refine rd1 5 rfl (by kernel_rfl) (λK c=>?_);go_simp;refine c _ _ ?_;clear c;exact ae ⟨t,y,f⟩ hrel
       go_simp;refine c _ _ ?_;clear c;refine rd1 0 rfl (by kernel_rfl) (λK c=>?_);have c4:(f.alloc (.cells #[.string ⟨r.toArray⟩,.iface t y] 198)).cell? ⟨W.heap.size+1,0,none⟩=some (.slice A F B):=(World.cell?_alloc_some f _ _ (by rw[c3];rfl)).trans c3;go_simp;refine c _ _ ?_;clear c;exact ae ⟨t,y,f⟩ hrel
      case tail =>
       rintro⟨t,y,f⟩ ⟨m,E,S⟩;simp only[]at m E S ⊢;have af:But b l f:=(But.of_below (Below.refl _ _).drew).trans m;have a1:f.ownsRow (W.heap.size+4) 198 2 (.slice A F B) a.2.length xs:=qdb ho af (by omega);have bh:W.heap.size+4<=f.heap.size:=Nat.le_trans a8 af.size;simp only[List.foldl];refine rd1 6 rfl (by kernel_rfl) (λK c=>?_);rw[if_pos (by rfl)];refine qdp _ _ 196 rfl (W.heap.size+4) 198 i0 (.agg #[.string ByteArray.empty,.nilIface]) 2 32 underlying196 hi ba bb bc rfl (by decide) _ _ _ rfl (a1.alloc _) ⟨f.heap.size,0,none⟩ 1 1 [.string ⟨r.toArray⟩,.iface t y] rfl rfl (qag _ _ _) (λbj hu=>by simp at hu;rcases hu with rfl|rfl<;>rfl) (by decide) (by unfold maxLen;omega) (by omega) (by simp;omega) ?_;intro v' w5 ay aw a9;have hJ:qgj k W b s N wi O (r::a.1,a.2++[(.string r,d)]) (w5.setCell ⟨W.heap.size+1,0,none⟩ v'):=J.out.push h0 ad af E S Q ho am an ay aw a9 (by have z:a.2.length<=I:=J.out.len.1;omega) (by have z:(r::a.1).length<=I:=J.out.len.2;omega);have aq:w5.heap[W.heap.size+1]?=some (.cells #[.slice A F B] 196):=(aw.block _ (by simp;omega) (λe=>by have:=qbE ho e.symm;omega)).trans ((Below.heap_alloc _ _ _ (by omega)).trans ((af.block _ (ltA Q) (by omega)).trans Q));have c5:w5.cell? ⟨W.heap.size+1,0,none⟩=some (.slice A F B):=qaa aq 0;have f5:w5.frozen? ⟨W.heap.size+1,0,none⟩=false:=frozen_of_row w5 _ 0 _ _ aq;obtain⟨g5,bd,rfl⟩:=ownsRow_succ ay;refine c _ _ ?_;clear c;refine rd1 7 rfl (by kernel_rfl) (λK c=>?_);go_simp;refine c _ _ ?_;clear c;refine wpAny_done (by kernel_rfl) ?_ _;go_end0;exact⟨rfl,hJ⟩

end
end Go.Proofs.YtpifimohecagoaaGreatDoor
