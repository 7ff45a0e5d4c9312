import Derived.Test.YtoegnhgofkhbnaaGreatDoorHq14
set_option maxRecDepth 100000
set_option maxHeartbeats 8000000
set_option linter.all false
namespace Go.Proofs.YtoegnhgofkhbnaaGreatDoor
open Go.Proofs.Tryz
open Go.Value renaming slice->A8,pointer->A9,string->Aa,tuple->Ab,agg->Ac,iface->Ae
open Go.Obj renaming cells->Af
open Go.Ending renaming returned->Ag
open Option renaming some->Aj,none->Ak
open Go renaming World->Al,Value->Am,Calls->An
variable{P:Program}{Q:Exit->Act->Al->Prop}{N b c k l p q wi wi':Nat}{a:List A2×List (Lit×DataW Unit)}{V V' V3 W w w5:Al}{s:AQ}{ds:List (DataW Unit)}{d:A3}{v' x:Am}{xs:List Am}{ks:List A2}
section
open Go.RowKit
theorem Wl{β:Type}{md:Region.Mode}{ops:Array Oper}{fuel:Nat}{listed:Array Bool}{a:Act}(L:Array Bool)(b:Nat)(c:β->List (Nat×Am))(T:β->Prop)(d:β->Al)(e:(∀x,T x->wpAny P md ops Q b L ((c x).foldl (λa p=>a.put (Aj p.1) p.2) a) (d x))->wpAny P md ops Q fuel listed a w)(f:∀x,T x->wpAny P md ops Q b L ((c x).foldl (λa p=>a.put (Aj p.1) p.2) a) (d x)):wpAny P md ops Q fuel listed a w:=e f
theorem Wm{o:Oper}{a:Act}{K:Act->Al->Prop}(s x:Operand)(t:TypeId)(N:o.op=.call {callee:=.builtin .append,args:=#[s,x],argTypes:=#[t,t]})(f:Nat)(e:TypeId)(i:TypeInfo)(z:Am)(size l:Nat)(F:P.underlying t=Aj (.slice e))(hi:P.info? e=Aj i)(G:i.zero=Aj z)(E:i.size=size)(r:i.bytes=l)(T:z.cells.size=size)(R:0<size)(v:Am)(n:Nat)(xs:List Am)(O:a.eval s=v)(C:w.ownsRow f e size v n xs)(k:Addr)(m c:Nat)(b:List Am)(S:a.eval x=A8 (Aj k) m c)(A:b.length=m*size)(B:∀j u,b[j]?=Aj u->w.cell? (k.add j)=Aj u)(p:∀u∈b,u.oneCell'=true)(M:0<m)(q:n+m<=maxLen)(y:(n+m)*l<=140737488355328)(L:f<=w.heap.size)(h:∀d g,g.ownsRow f e size d (n+m) (xs++b)->w.grownBy g v.ownBlock->(d.ownBlock=v.ownBlock\/d.ownBlock=Aj w.heap.size)->K (a.put o.dst d) g):o.wp P a w K Q:=by
 obtain⟨d,g,D,H,I,_⟩:=N2 (P:=P) w f t o.type e i z size l F hi G E r T R v n xs C k m c b A B p q y L;have J:=Wc (P:=P) w f t o.type e i z size l F hi G E r v n xs C k m c b A B p M q y D;unfold Oper.wp execOp;simp only[N,resolve,invoke,builtin,D8,E4,Dl,LC,CT,GJ,O,S,D];exact h d g H I J
structure Ht(k:Nat)(W:World)(b:Nat)(s:AQ)(N wi p:Nat)(ds:List (DataW Unit))(V:World):Prop where
 src:Az V b {s with pos:=p,within:=wi}
 but:AE b W V
 rbox:V.heap[W.heap.size]?=some (.cells #[.pointer (some ⟨b,0,none⟩)] 207)
 box:V.heap[N]?=some (.cells #[.pointer (some ⟨b,0,none⟩)] 207)
 hN:W.heap.size+2<=N
 own:∃a l c xs,V.heap[W.heap.size+1]?=some (.cells #[.slice a l c] 218)/\V.ownsRow (W.heap.size+2) 89 1 (.slice a l c) ds.length xs/\some N≠(Value.slice a l c).ownBlock/\∀(i:Nat) (x:Value) (d:A3),xs[i]?=some x->ds[i]?=some d->AJ k V (λj=>W.heap.size+2<=j/\j<V.heap.size/\some j≠(Value.slice a l c).ownBlock) x d
 size:W.heap.size+2<=V.heap.size
 len:ds.length<=p
theorem Ht.step(h:Ht k W b s N wi p ds V)(z:b<W.heap.size)(u:Az V' b {s with pos:=q,within:=wi' })(e:AE b V V')(t:ds.length<=q):Ht k W b s N wi' q ds V':=by
 obtain⟨a,l,c,w,g,m,n,o⟩:=h.own;have A:=h.size;have y:=h.hN;exact⟨u,h.but.trans e,(e.block _ (At h.rbox) (by omega)).trans h.rbox,(e.block _ (At h.box) (by omega)).trans h.box,h.hN,⟨a,l,c,w,(e.block _ (At g) (by omega)).trans g,RX m e (by omega),n,λi x d v r=>(o i x d v r).same (λj f=>⟨f.1,Br f.2.1 e.size,f.2.2⟩) (λj f=>e.block j f.2.1 (by omega))⟩,AW h.size e.size,t⟩
theorem Ht.push{a:A5}(h:Ht k W b s N wi p ds V)(L:Az W b s)(hb:b<W.heap.size)(m:AE b V V3)(R:Az V3 b {s with pos:=q,within:=wi})(T:AJ k V3 (λj=>V.heap.size<=j/\j<V3.heap.size) x d)(F:V.heap[W.heap.size+1]?=Aj (Af #[A8 a l c] 218))(D:V.ownsRow (W.heap.size+2) 89 1 (A8 a l c) ds.length xs)(G:Aj N≠(Value.slice a l c).ownBlock)(aa:∀(i:Nat) (x:Am) (d:A3),xs[i]?=Aj x->ds[i]?=Aj d->AJ k V (λj=>W.heap.size+2<=j/\j<V.heap.size/\Aj j≠(Value.slice a l c).ownBlock) x d)(E:w5.ownsRow (W.heap.size+2) 89 1 v' (ds.length+1) (xs++[x]))(n:(V3.alloc (Af #[x] 89)).grownBy w5 (Value.slice a l c).ownBlock)(t:v'.ownBlock=(Value.slice a l c).ownBlock\/v'.ownBlock=Aj (V3.alloc (Af #[x] 89)).heap.size)(Y:ds.length+1<=q):Ht k W b s N wi q (ds++[d]) (w5.setCell ⟨W.heap.size+1,0,Ak⟩ v'):=by
 have af:=h.size;have hN:=h.hN;have Q:=At h.box;have ad:=m.size;have ae:V3.heap.size+1<=w5.heap.size:=by have:=n.size;simpa using this
 have key:∀g,(Value.slice a l c).ownBlock=Aj g->W.heap.size+2<=g:=λg n=>E7 D n;have ab:=Pf D;have v:∀j,j<V3.heap.size->Aj j≠(Value.slice a l c).ownBlock->j≠W.heap.size+1->(w5.setCell ⟨W.heap.size+1,0,Ak⟩ v').heap[j]?=V3.heap[j]?:=λj f r X=>(BV w5 _ _ _ (by simpa using X)).trans ((n.block j (by simp;omega) r).trans (AL _ _ _ f));have B:∀j,j<W.heap.size+1->(w5.setCell ⟨W.heap.size+1,0,Ak⟩ v').heap[j]?=V3.heap[j]?:=λj f=>v j (by omega) (λe=>by have:=key j e.symm;omega) (by omega);have P:=(n.block _ (by simp;omega) (λe=>by have:=key _ e.symm;omega)).trans ((AL _ _ _ (by omega)).trans ((m.block _ (At F) (by omega)).trans F));have w:(w5.setCell ⟨W.heap.size+1,0,Ak⟩ v').heap.size=w5.heap.size:=by simp[World.setCell]
 obtain⟨A,z,rfl⟩:=ownsRow_succ E;have Z:(w5.setCell ⟨W.heap.size+1,0,Ak⟩ (A8 (Aj ⟨A,0,Ak⟩) (ds.length+1) z)).ownsRow (W.heap.size+2) 89 1 (A8 (Aj ⟨A,0,Ak⟩) (ds.length+1) z) (ds.length+1) (xs++[x]):=by
  refine⟨E.1,?_⟩;rcases E.2 with M|⟨g,I,J,e,S,U,O⟩
  ·exact .inl M
  exact .inr ⟨g,I,J,e,S,(BV w5 _ _ _ (by simp;omega)).trans U,O⟩
 have C:∀j,j<V3.heap.size->Aj j≠(Value.slice a l c).ownBlock->Aj j≠(Value.slice (Aj ⟨A,0,Ak⟩) (ds.length+1) z).ownBlock:=λj f r=>by
  rcases t with t|t
  ·rw[t];exact r
  rw[t];intro e;injection e with e;simp at e;omega
 refine⟨L.same rfl rfl R (λj f=>B j (by omega)),⟨n.os.trans (m.os.trans h.but.os),n.tape.trans (m.tape.trans h.but.tape),n.output.trans (m.output.trans h.but.output),by rw[w];have:=h.but.size;omega,λj f r=>(B j (by omega)).trans ((m.block j (by omega) r).trans (h.but.block j f r))⟩,(B _ (by omega)).trans ((m.block _ (by omega) (by omega)).trans h.rbox),(v N (by omega) G (by omega)).trans ((m.block N Q (by omega)).trans h.box),h.hN,⟨_,_,_,_,?_,by rw[AC];exact Z,?_,λi ac K u o=>?_⟩,by rw[w];omega,by rw[AC];exact Y⟩
 ·rw[DJ _ _ _ _ _ _ P];rfl
 ·exact C N (by omega) G
 have y:xs.length=ds.length:=by have:=D.1;omega
 by_cases hi:i<ds.length
 ·rw[E3 (by omega)]at u o;exact(aa i ac K u o).same (λj f=>⟨f.1,by rw[w];have:=f.2.1;omega,C j (by omega) f.2.2⟩) (λj f=>(v j (by omega) f.2.2 (by omega)).trans (m.block j f.2.1 (by omega)))
 have e:i=ds.length:=by
  have:=B9 o;rw[AC]at this;simp at this;omega
 subst e;rw[E2 (by omega)]at o;rw[E2 (by omega),y]at u;simp at u o;subst u;subst o;have H:∀j,V.heap.size<=j->Aj j≠(Value.slice a l c).ownBlock:=λj f e=>by have:=ab j e.symm;omega
 exact T.same (λj f=>⟨by omega,by rw[w];omega,C j f.2 (H j f.1)⟩) (λj f=>v j f.2 (H j f.1) (by omega))
theorem ge(k:Nat)(W:Al)(b:Nat)(s:AQ)(g:Nat)(A:Nat->Except (Int×Int) (DataW Unit×Nat))(O:Az W b s)(ae:KV k b {s with within:=g} W A)(ac:∀p d q,A p=.ok (d,q)->p<q)(an:s.bs.length<=200000000)(N p:Nat)(ds:List (DataW Unit))(V:Al)(h:Ht k W b s N g p ds V):An prog 242 #[A9 (Aj ⟨W.heap.size+1,0,Ak⟩),A9 (Aj ⟨W.heap.size,0,Ak⟩)] V (Md (Ht k W b s N g) (λV=>AE b W V) (Cv A ds p)):=by
 obtain⟨i0,hi,ai,aj,ak⟩:=BH Tryz.infoThing;have ab:=At O.row;obtain⟨v,z,w,xs,n,L,ad,ah⟩:=h.own;have J:W.heap.size+1<(World.drew V).heap.size:=At n;have am:ds.length<=200000000:=by have P:=h.len;have Q:p<=s.bs.length:=h.src.le;omega
 have C:=h.src.below (AT _ _).drew;have l:=h.but.trans (AE.of_below (AT _ _).drew);have k0:(World.drew V).cell? ⟨W.heap.size+1,0,Ak⟩=Aj (A8 v z w):=Ar n 0;have k1:(World.drew V).cell? ⟨W.heap.size,0,Ak⟩=Aj (A9 (Aj ⟨b,0,Ak⟩)):=Ar h.rbox 0;have af:=h.size;have m:∀B,Az B b {s with pos:=p,within:=g}->AE b W B->An prog 228 #[Ac #[A9 (Aj ⟨b,0,Ak⟩)]] B (Ig k B b {s with pos:=p,within:=g} (A p)):=λB P Q=>ae B p P Q
 cases D:A p with
 |error Z =>
  obtain⟨F,I⟩:=Z;have M:Cv A ds p=.error (F,I):=by unfold Cv;rw[D]
  rw[M];rw[D]at m;go_enter func242,ntmps242
  go_wp2_with fail
  refine OK (by kernel_rfl) ?_;change wpAny _ _ _ _ _ _ _ (World.drew V);refine I9 0 1 rfl rfl (by kernel_rfl) (λK a=>?_) (λK a=>?_)
  ·go_simp;refine a _ _ ?_;refine D9 1 rfl (by kernel_rfl) (λK a=>?_);go_simp;refine a _ _ ?_;refine D9 2 rfl (by kernel_rfl) (λK a=>?_);go_simp;refine(m _ C l).mono ?_;rintro e c ⟨f,i⟩;obtain rfl:=(show B7 F I e from i)
   exact⟨rfl,rfl,l.trans f⟩
  go_simp;refine a _ _ ?_;refine I9 0 2 rfl rfl (by kernel_rfl) (λK a=>?_) (λK a=>?_)
  ·go_simp;refine a _ _ ?_;refine D9 2 rfl (by kernel_rfl) (λK a=>?_);go_simp;refine(m _ C l).mono ?_;rintro e c ⟨f,i⟩;obtain rfl:=(show B7 F I e from i)
   exact⟨rfl,rfl,l.trans f⟩
  go_simp;refine(m _ C l).mono ?_;rintro e c ⟨f,i⟩;obtain rfl:=(show B7 F I e from i)
  exact⟨rfl,rfl,l.trans f⟩
 |ok Y =>
  obtain⟨d,q⟩:=Y;have M:Cv A ds p=.ok (ds++[d],q):=by unfold Cv;rw[D]
  rw[M];have ao:=ac p d q D;rw[D]at m;go_enter func242,ntmps242
  go_wp2_with fail
  refine OK (by kernel_rfl) ?_;change wpAny _ _ _ _ _ _ _ (World.drew V);refine Wl (β:=TypeId×Am×Al) #[true,true,true,true,false,false] 2 (λx=>[(2,A8 v z w),(3,Ac #[A9 (Aj ⟨b,0,Ak⟩)]),(4,Ae x.1 x.2.1),(5,A8 (Aj ⟨x.2.2.heap.size,0,Ak⟩) 1 1)]) (λx=>AE b (World.drew V) x.2.2/\Az x.2.2 b {s with pos:=q,within:=g}/\AJ k x.2.2 (λj=>(World.drew V).heap.size<=j/\j<x.2.2.heap.size) (Ae x.1 x.2.1) d) (λx=>x.2.2.alloc (Af #[Ae x.1 x.2.1] 89)) (λH=>?reg) ?tail
  case reg =>
   refine I9 0 1 rfl rfl (by kernel_rfl) (λK a=>?_) (λK a=>?_)
   ·go_simp;refine a _ _ ?_;refine D9 1 rfl (by kernel_rfl) (λK a=>?_);go_simp;refine a _ _ ?_;refine D9 2 rfl (by kernel_rfl) (λK a=>?_);go_simp;refine(m _ C l).mono ?_;rintro e c ⟨f,i⟩;obtain⟨⟨t,y,rfl,r⟩,o⟩:=(show(∃t y,e=Ag (Ae t y)/\AJ k c (λj=>(World.drew V).heap.size<=j/\j<c.heap.size) (Ae t y) d)/\Az c b {s with pos:=q,within:=g}from i)
    simp only[];have E:c.cell? ⟨W.heap.size+1,0,Ak⟩=Aj (A8 v z w):=Ar ((f.block _ J (by omega)).trans n) 0;have hrel:AE b (World.drew V) c/\Az c b {s with pos:=q,within:=g}/\AJ k c (λj=>(World.drew V).heap.size<=j/\j<c.heap.size) (Ae t y) d:=⟨f,o,r⟩
    refine a _ _ ?_;refine D9 3 rfl (by kernel_rfl) (λK a=>?_);go_simp;refine a _ _ ?_;exact H ⟨t,y,c⟩ hrel
   go_simp;refine a _ _ ?_;refine I9 0 2 rfl rfl (by kernel_rfl) (λK a=>?_) (λK a=>?_)
   ·go_simp;refine a _ _ ?_;refine D9 2 rfl (by kernel_rfl) (λK a=>?_);go_simp;refine(m _ C l).mono ?_;rintro e c ⟨f,i⟩;obtain⟨⟨t,y,rfl,r⟩,o⟩:=(show(∃t y,e=Ag (Ae t y)/\AJ k c (λj=>(World.drew V).heap.size<=j/\j<c.heap.size) (Ae t y) d)/\Az c b {s with pos:=q,within:=g}from i)
    simp only[];have E:c.cell? ⟨W.heap.size+1,0,Ak⟩=Aj (A8 v z w):=Ar ((f.block _ J (by omega)).trans n) 0;have hrel:AE b (World.drew V) c/\Az c b {s with pos:=q,within:=g}/\AJ k c (λj=>(World.drew V).heap.size<=j/\j<c.heap.size) (Ae t y) d:=⟨f,o,r⟩
    refine a _ _ ?_;refine D9 3 rfl (by kernel_rfl) (λK a=>?_);go_simp;refine a _ _ ?_;exact H ⟨t,y,c⟩ hrel
   go_simp;refine(m _ C l).mono ?_;rintro e c ⟨f,i⟩;obtain⟨⟨t,y,rfl,r⟩,o⟩:=(show(∃t y,e=Ag (Ae t y)/\AJ k c (λj=>(World.drew V).heap.size<=j/\j<c.heap.size) (Ae t y) d)/\Az c b {s with pos:=q,within:=g}from i)
   simp only[];have E:c.cell? ⟨W.heap.size+1,0,Ak⟩=Aj (A8 v z w):=Ar ((f.block _ J (by omega)).trans n) 0;have hrel:AE b (World.drew V) c/\Az c b {s with pos:=q,within:=g}/\AJ k c (λj=>(World.drew V).heap.size<=j/\j<c.heap.size) (Ae t y) d:=⟨f,o,r⟩
   refine a _ _ ?_;refine I9 0 3 rfl rfl (by kernel_rfl) (λK a=>?_) (λK a=>?_)
   ·go_simp;refine a _ _ ?_;refine D9 3 rfl (by kernel_rfl) (λK a=>?_);go_simp;refine a _ _ ?_;exact H ⟨t,y,c⟩ hrel
   go_simp;refine a _ _ ?_;refine D9 0 rfl (by kernel_rfl) (λK a=>?_);have c4:(c.alloc (Af #[Ae t y] 89)).cell? ⟨W.heap.size+1,0,Ak⟩=Aj (A8 v z w):=(Ck c _ _ (by rw[E];rfl)).trans E;go_simp;refine a _ _ ?_;exact H ⟨t,y,c⟩ hrel
  case tail =>
   rintro⟨t,y,c⟩ ⟨f,o,r⟩;simp only[]at f o r ⊢;have G:=(AE.of_below (AT _ _).drew).trans f;have aa:=RX L G (by omega);have ap:=AW af G.size;simp only[List.foldl];refine D9 4 rfl (by kernel_rfl) (λK a=>?_);rw[As (by rfl)];refine Wm _ _ 218 rfl (W.heap.size+2) 89 i0 .nilIface 1 16 underlying218 hi ai aj ak rfl (by decide) _ _ _ rfl (aa.alloc _) ⟨c.heap.size,0,Ak⟩ 1 1 [Ae t y] rfl rfl (Bf _ _ _) (λaq U=>by simp at U;subst U;rfl) (by decide) (by unfold maxLen;omega) (by omega) (by simp;omega) ?_;intro v' X T S ag;have u:=h.push O ab G o r n L ad ah T S ag (by have:=h.len;omega);have R:=(S.block _ (by simp;omega) (λe=>by have:=E7 L e.symm;omega)).trans ((AL _ _ _ (by omega)).trans ((G.block _ (At n) (by omega)).trans n));have c5:X.cell? ⟨W.heap.size+1,0,Ak⟩=Aj (A8 v z w):=Ar R 0;have f5:=Cx X _ 0 _ _ R;obtain⟨g5,al,rfl⟩:=ownsRow_succ T;refine a _ _ ?_;refine D9 5 rfl (by kernel_rfl) (λK a=>?_);go_simp;refine a _ _ ?_;refine R8 (by kernel_rfl) ?_ _;go_end0;exact⟨rfl,u⟩
theorem Me(bs:A2)(lim:Int):∀(g p c:Nat) (b l:A2) (r:Nat),Bn bs lim g p b c=.ok (l,r)->p<r/\l.length+4*p<=b.length+4*r
 |0,p,c,b,l,r,h=>by rw[Bn]at h;cases h
 |g+1,p,c,b,l,r,h=>by
  rw[Bn]at h;split at h
  ·cases h
  split at h
  ·cases h
  split at h
  ·injection h with h;injection h with a d;subst a;omega
  split at h
  ·split at h
   ·cases h
   next rr q hq =>
   have a:=Me bs lim g q _ _ l r h;have d:=(RT hq).2;have e:=(KR rr).2;rw[AC]at a;omega
  split at h
  ·cases h
  split at h
  ·cases h
  have a:=Me bs lim g (p+1) _ _ l r h;rw[AC]at a;simp at a;omega
theorem KW(bs:A2)(lim:Int):∀(l:A2) (p:Nat) (u:Unit) (q:Nat),Ba bs lim l p=.ok (u,q)->q=p+l.length
 |[],p,u,q,h=>by
  rw[Ba]at h;injection h with h;injection h with h1 h2;simp[h2]
 |x::xs,p,u,q,h=>by
  rw[Ba]at h;split at h
  ·cases h
  split at h
  ·cases h
  split at h
  ·have:=KW bs lim xs (p+1) u q h;simp;omega
  cases h
theorem Wn{bs:A2}{lim:Int}{l:A2}(h:El bs lim ks p=.ok (l,q)):p<q:=by
 unfold El at h;split at h
 ·cases h
 next u q1 h1 =>
 split at h
 ·cases h
 next l' r h2 =>
 split at h
 ·cases h
 injection h with h;injection h with h3 h4;have:=KW _ _ _ _ _ _ h1;have:=Me _ _ _ _ _ _ _ _ h2;omega
def Wo(W:Al)(b m:Nat)(s:AQ)(ks:List A2)(r:A6 A2)(e:Ending)(W':Al):Prop :=
 Gs b m W W'/\match r with
 |.ok (l,p)=>e=Ag (Aa ⟨l.toArray⟩)/\Az W' b {s with pos:=p}/\Ek W' m (l::ks)
 |.error (en,pl)=>B7 en pl e
theorem gh(W:Al)(b m:Nat)(s:AQ)(ks:List A2)(h:Az W b s)(hk:Ek W m ks)(S:m≠b)(ab:∀g off,s.bs≠[]->s.ia=Aj ⟨g,off,Ak⟩->g≠m)(ac:ks.length<1000000000)(ad:s.bs.length<=200000000)(hU:∀V,AE b W V->U8 V)(h7:7<b):An prog 244 #[Ac #[A9 (Aj ⟨b,0,Ak⟩)],.map (Aj m)] W (Wo W b m s ks (El s.bs s.lim ks s.pos)):=by
 have o:=Ap (Eu h);have t:=Ma _ b s [34] (by simp) o.src;have u:∀(V:Al) (p:Nat),Az V b {s with pos:=p}->AE b W V->An prog 231 #[Ac #[A9 (Aj ⟨b,0,Ak⟩)]] V (DD V b {s with pos:=p} (λl:A2=>Aa ⟨l.toArray⟩) (Bn s.bs s.lim (s.bs.length+1-p) p [] 0)):=λV p n L=>Wf V b {s with pos:=p} n (hU V L) h7 ad;have Y:∀(V:Al) (p:Nat),Az V b {s with pos:=p}->An prog 227 #[A9 (Aj ⟨b,0,Ak⟩),.int .i64 12] V λe X=>B7 12 ((p:Int)-1) e/\X=V:=λV p n=>Fd V b {s with pos:=p} 12 n;have O:Hid (∀V,AE b W V->Ek V m ks):=λV n=>hk.but S n;have U:Hid (∀V H p,Az V b {s with pos:=p}->AE m V H->Az H b {s with pos:=p}):=λV H p n L=>n.off S ab L;obtain⟨R,P⟩:∃R,Hid (El s.bs s.lim ks s.pos=R):=⟨_,show _=_ from rfl⟩
 rw[P.out];have a:=P.out;unfold El at a;have v:=Ar o.box 0
 cases Q:Ba s.bs s.lim [34] s.pos with
 |error K =>
  rw[Q]at a t;simp only[]at a;subst a;obtain⟨J,N⟩:=K;go_enter func244,ntmps244
  go_wp2_with(first
   |(go_at_call 230;refine t.mono ?_;rintro e f ⟨j,k⟩;obtain rfl:=(show B7 J N e from k)))
  exact⟨rfl,.of1 (o.but.trans j),rfl⟩
 |ok uq =>
  obtain⟨af,q⟩:=uq;rw[Q]at a t;simp only[]at a;have w:=λI (hs:Az I b {s with pos:=q}) (hb:AE b W I)=>u I q hs hb
  cases M:Bn s.bs s.lim (s.bs.length+1-q) q [] 0 with
  |error K =>
   rw[M]at a w;simp only[]at a;subst a;obtain⟨J,N⟩:=K;go_enter func244,ntmps244
   go_wp2_with(first
    |(go_at_call 230;refine t.mono ?_;rintro e f ⟨j,k⟩;obtain⟨rfl,B⟩:=(show e=Ag (Ab #[])/\Az f b {s with pos:=q}from k);have c:=Ap (o.step B j);have v:=Ar c.box 0;have x:=w f c.src c.but)
    |(go_at_call 231;refine x.mono ?_;rintro e i ⟨y,A⟩;obtain rfl:=(show B7 J N e from A)))
   exact⟨rfl,.of1 (c.but.trans y),rfl⟩
  |ok lr =>
   obtain⟨l,r⟩:=lr;rw[M]at a w;simp only[]at a;have ae:=Me _ _ _ _ _ _ _ _ M;simp only[CF,Df]at ae;by_cases D:l∈ks
   ·rw[As D]at a;subst a;have E:=Ap D;go_enter func244,ntmps244
    go_wp2_with(first
     |(go_at_call 230;refine t.mono ?_;rintro e f ⟨j,k⟩;obtain⟨rfl,B⟩:=(show e=Ag (Ab #[])/\Az f b {s with pos:=q}from k);have c:=Ap (o.step B j);have v:=Ar c.box 0;have x:=w f c.src c.but)
     |(go_at_call 231;refine x.mono ?_;rintro e i ⟨y,A⟩;obtain⟨rfl,C⟩:=(show e=Ag (Aa ⟨l.toArray⟩)/\Az i b {s with pos:=r}from A);have d:=Ap (c.step C y);have F:Hid (l.length<=1000000000):=(show _<=_ from by have h1:r<=s.bs.length:=C.le;omega);have v:=Ar d.box 0)
     |(go_at_call 250;refine(fV i m ks l (O i d.but) E F).mono ?_;rintro e T ⟨rfl,z⟩;have G:=Ap (d.step (d.src.below z) (AE.of_below z));have v:=Ar G.box 0;have Z:=Y T r G.src)
     |(go_at_call 227;refine Z.mono ?_;rintro e w8 ⟨hF,rfl⟩;obtain rfl:=hF))
    exact⟨rfl,.of1 G.but,rfl⟩
   rw[Aq D]at a;subst a;have E:=Ap D;go_enter func244,ntmps244
   go_wp2_with(first
    |(go_at_call 230;refine t.mono ?_;rintro e f ⟨j,k⟩;obtain⟨rfl,B⟩:=(show e=Ag (Ab #[])/\Az f b {s with pos:=q}from k);have c:=Ap (o.step B j);have v:=Ar c.box 0;have x:=w f c.src c.but)
    |(go_at_call 231;refine x.mono ?_;rintro e i ⟨y,A⟩;obtain⟨rfl,C⟩:=(show e=Ag (Aa ⟨l.toArray⟩)/\Az i b {s with pos:=r}from A);have d:=Ap (c.step C y);have F:Hid (l.length<=1000000000):=(show _<=_ from by have h1:r<=s.bs.length:=C.le;omega);have v:=Ar d.box 0)
    |(go_at_call 250;refine(fW i m ks l (O i d.but) E ac F).mono ?_;rintro e T ⟨rfl,aa,z⟩))
   go_ret;exact⟨(Gs.of1 d.but).trans (Gs.of2 z),rfl,U _ _ _ d.src z,aa⟩
structure DE(k:Nat)(W:World)(b:Nat)(s:AQ)(N wi p:Nat)(a:List A2×List (Lit×DataW Unit))(V:World):Prop where
 src:Az V b {s with pos:=p,within:=wi}
 but:AE b W V
 rbox:V.heap[W.heap.size]?=some (.cells #[.pointer (some ⟨b,0,none⟩)] 207)
 kbox:V.heap[W.heap.size+3]?=some (.cells #[.map (some (W.heap.size+2))] 345)
 keys:Ek V (W.heap.size+2) a.1
 box:V.heap[N]?=some (.cells #[.pointer (some ⟨b,0,none⟩)] 207)
 hN:W.heap.size+4<=N
 own:∃ad l c xs,V.heap[W.heap.size+1]?=some (.cells #[.slice ad l c] 220)/\V.ownsRow (W.heap.size+4) 222 2 (.slice ad l c) a.2.length xs/\some N≠(Value.slice ad l c).ownBlock/\Hs k V (λj=>W.heap.size+4<=j/\j<V.heap.size/\some j≠(Value.slice ad l c).ownBlock) xs a.2
 size:W.heap.size+4<=V.heap.size
 len:a.2.length<=p/\a.1.length<=p
theorem DE.step(h:DE k W b s N wi p a V)(w:b<W.heap.size)(t:Az V' b {s with pos:=q,within:=wi' })(d:Gs b (W.heap.size+2) V V')(o:Ek V' (W.heap.size+2) ks)(r:a.2.length<=q/\ks.length<=q):DE k W b s N wi' q (ks,a.2) V':=by
 obtain⟨g,l,c,u,f,i,m,n⟩:=h.own;have x:=h.size;have v:=h.hN;exact⟨t,h.but.trans' d,(d.block _ (At h.rbox) (by omega) (by omega)).trans h.rbox,(d.block _ (At h.kbox) (by omega) (by omega)).trans h.kbox,o,(d.block _ (At h.box) (by omega) (by omega)).trans h.box,h.hN,⟨g,l,c,u,(d.block _ (At f) (by omega) (by omega)).trans f,ga i d (by omega) (by omega),m,n.same (λj e=>⟨e.1,Br e.2.1 d.size,e.2.2⟩) (λj e=>d.block j e.2.1 (by omega) (by omega))⟩,AW h.size d.size,r⟩
theorem DE.go'(h:DE k W b s N wi p a V)(d:b<W.heap.size)(f:Az V' b {s with pos:=q,within:=wi' })(c:AE b V V')(e:a.2.length<=q/\a.1.length<=q):DE k W b s N wi' q a V' :=
 h.step (ks:=a.1) d f (.of1 c) (h.keys.but (by omega) c) e
theorem DE.go(h:DE k W b s N wi p a V)(d:b<W.heap.size)(e:Az V' b {s with pos:=q,within:=wi' })(c:AE b V V')(f:p<=q):DE k W b s N wi' q a V' :=
 h.go' d e c ⟨by have:=h.len.1;omega,by have:=h.len.2;omega⟩
theorem DE.push{es:List (Lit×DataW Unit)}{key:A2}{a:A5}(h:DE k W b s N wi p (ks,es) V)(S:Az W b s)(hb:b<W.heap.size)(m:AE b V V3)(hS:Az V3 b {s with pos:=q,within:=wi})(hd:AJ k V3 (λj=>V.heap.size<=j/\j<V3.heap.size) x d)(H:V.heap[W.heap.size+1]?=Aj (Af #[A8 a l c] 220))(F:V.ownsRow (W.heap.size+4) 222 2 (A8 a l c) es.length xs)(I:Aj N≠(Value.slice a l c).ownBlock)(af:Hs k V (λj=>W.heap.size+4<=j/\j<V.heap.size/\Aj j≠(Value.slice a l c).ownBlock) xs es)(G:w5.ownsRow (W.heap.size+4) 222 2 v' (es.length+1) (xs++[Aa ⟨key.toArray⟩,x]))(n:(V3.alloc (Af #[Aa ⟨key.toArray⟩,x] 222)).grownBy w5 (Value.slice a l c).ownBlock)(t:v'.ownBlock=(Value.slice a l c).ownBlock\/v'.ownBlock=Aj (V3.alloc (Af #[Aa ⟨key.toArray⟩,x] 222)).heap.size)(ac:es.length+1<=q)(ad:ks.length<=q):DE k W b s N wi q (ks,es++[(.string key,d)]) (w5.setCell ⟨W.heap.size+1,0,Ak⟩ v'):=by
 have ak:=h.size;have hN:=h.hN;have Z:=At h.box;have ai:=m.size;have aj:V3.heap.size+1<=w5.heap.size:=by have:=n.size;simpa using this
 have C:∀g,(Value.slice a l c).ownBlock=Aj g->W.heap.size+4<=g:=λg n=>E7 F n;have ag:∀g,(Value.slice a l c).ownBlock=Aj g->g<V.heap.size:=Pf F;have u:∀j,j<V3.heap.size->Aj j≠(Value.slice a l c).ownBlock->j≠W.heap.size+1->(w5.setCell ⟨W.heap.size+1,0,Ak⟩ v').heap[j]?=V3.heap[j]?:=λj f r D=>(BV w5 _ _ _ (by simpa using D)).trans ((n.block j (by simp;omega) r).trans (AL _ _ _ f));have v:∀j,j<W.heap.size+4->j≠W.heap.size+1->(w5.setCell ⟨W.heap.size+1,0,Ak⟩ v').heap[j]?=V3.heap[j]?:=λj f D=>u j (by omega) (λe=>by have:=C j e.symm;omega) D;have Y:w5.heap[W.heap.size+1]?=Aj (Af #[A8 a l c] 220):=(n.block _ (by simp;omega) (λe=>by have:=C _ e.symm;omega)).trans ((AL _ _ _ (by omega)).trans ((m.block _ (At H) (by omega)).trans H));have w:(w5.setCell ⟨W.heap.size+1,0,Ak⟩ v').heap.size=w5.heap.size:=by simp[World.setCell]
 have ab:Ek (w5.setCell ⟨W.heap.size+1,0,Ak⟩ v') (W.heap.size+2) ks:=by
  have T:Ek V3 (W.heap.size+2) ks:=h.keys.but (by omega) m;have B:Ek (V3.alloc (Af #[Aa ⟨key.toArray⟩,x] 222)) (W.heap.size+2) ks:=T.but (b:=W.heap.size+1) (by omega) (AE.of_below AH);have U:Ek w5 (W.heap.size+2) ks:=B.kept n (λe=>by have:=C _ e.symm;omega);exact U.but (b:=W.heap.size+1) (by omega) ⟨rfl,rfl,rfl,by simp[World.setCell],λj _ f=>BV w5 _ _ _ (by simpa using f)⟩
 obtain⟨A,z,rfl⟩:=ownsRow_succ G;have ae:(w5.setCell ⟨W.heap.size+1,0,Ak⟩ (A8 (Aj ⟨A,0,Ak⟩) (es.length+1) z)).ownsRow (W.heap.size+4) 222 2 (A8 (Aj ⟨A,0,Ak⟩) (es.length+1) z) (es.length+1) (xs++[Aa ⟨key.toArray⟩,x]):=by
  refine⟨G.1,?_⟩;rcases G.2 with B|⟨g,K,L,e,y,aa,X⟩
  ·exact .inl B
  exact .inr ⟨g,K,L,e,y,(BV w5 _ _ _ (by simp;omega)).trans aa,X⟩
 have E:∀j,j<V3.heap.size->Aj j≠(Value.slice a l c).ownBlock->Aj j≠(Value.slice (Aj ⟨A,0,Ak⟩) (es.length+1) z).ownBlock:=λj f r=>by
  rcases t with t|t
  ·rw[t];exact r
  rw[t];intro e;injection e with e;simp at e;omega
 refine⟨S.same rfl rfl hS (λj f=>v j (by omega) (by omega)),⟨n.os.trans (m.os.trans h.but.os),n.tape.trans (m.tape.trans h.but.tape),n.output.trans (m.output.trans h.but.output),by rw[w];have:=h.but.size;omega,λj f r=>(v j (by omega) (by omega)).trans ((m.block j (by omega) r).trans (h.but.block j f r))⟩,(v _ (by omega) (by omega)).trans ((m.block _ (by omega) (by omega)).trans h.rbox),(v _ (by omega) (by omega)).trans ((m.block _ (by omega) (by omega)).trans h.kbox),ab,(u N (by omega) I (by omega)).trans ((m.block N Z (by omega)).trans h.box),h.hN,⟨_,_,_,_,?_,by rw[AC];exact ae,?_,λi ah M o=>?_⟩,by rw[w];omega,⟨by rw[AC];exact ac,ad⟩⟩
 ·rw[DJ _ _ _ _ _ _ Y];rfl
 ·exact E N (by omega) I
 have al:xs.length=es.length*2:=F.1;by_cases hi:i<es.length
 ·rw[E3 hi]at o;obtain⟨l',x',O,P,Q,R⟩:=af i ah M o;refine⟨l',x',O,by rw[E3 (by omega)];exact P,by rw[E3 (by omega)];exact Q,?_⟩;exact R.same (λj f=>⟨f.1,by rw[w];have:=f.2.1;omega,E j (by omega) f.2.2⟩) (λj f=>(u j (by omega) f.2.2 (by omega)).trans (m.block j f.2.1 (by omega)))
 have e:i=es.length:=by
  have:=B9 o;rw[AC]at this;simp at this;omega
 subst e;rw[E2 (by omega)]at o;simp at o;obtain⟨rfl,rfl⟩:=o;have J:∀j,V.heap.size<=j->Aj j≠(Value.slice a l c).ownBlock:=λj f e=>by have:=ag j e.symm;omega
 refine⟨key,x,rfl,?_,?_,hd.same (λj f=>⟨by omega,by rw[w];omega,E j f.2 (J j f.1)⟩) (λj f=>u j f.2 (J j f.1) (by omega))⟩
 ·rw[E2 (by omega),show 2*es.length-xs.length=0 by omega];rfl
 rw[E2 (by omega),show 2*es.length+1-xs.length=1 by omega];rfl
theorem gi(k:Nat)(W:Al)(b:Nat)(s:AQ)(l:Nat)(Z:Nat->Except (Int×Int) (DataW Unit×Nat))(h0:Az W b s)(az:KV k b {s with within:=l} W Z)(a3:∀p d q,Z p=.ok (d,q)->p<q)(a4:s.bs.length<=200000000)(hU:∀V,AE b W V->U8 V)(h7:7<b)(N p:Nat)(a:List A2×List (Lit×DataW Unit))(V:Al)(h:DE k W b s N l p a V):An prog 243 #[A9 (Aj ⟨W.heap.size,0,Ak⟩),A9 (Aj ⟨W.heap.size+3,0,Ak⟩),A9 (Aj ⟨W.heap.size+1,0,Ak⟩)] V (Md (DE k W b s N l) (λV=>AE b W V) (C0 s.bs s.lim Z a p)):=by
 obtain⟨i0,hi,ba,bb,bc⟩:=BH Tryz.infoEntry;have ad:b<W.heap.size:=At h0.row;have ax:∀ah off,s.bs≠[]->s.ia=Aj ⟨ah,off,Ak⟩->ah≠W.heap.size+2:=λah off am e=>by
  have hl:0<s.bs.length:=by cases a2:s.bs with|nil=>exact absurd a2 am|cons _ _=>simp
  obtain⟨g',bi,e1,_,e3⟩:=h0.inp 0 hl;rw[e]at e1;injection e1 with e1;injection e1 with e1;have:g'<W.heap.size:=F8 e3;omega
 have H:Hid (DE k W b s N l p a V):=h;have cK:An prog 244 #[Ac #[A9 (Aj ⟨b,0,Ak⟩)],.map (Aj (W.heap.size+2))] V (Wo V b (W.heap.size+2) {s with pos:=p,within:=l} a.1 (El s.bs s.lim a.1 p)):=gh V b (W.heap.size+2) {s with pos:=p,within:=l} a.1 h.src h.keys (by omega) ax (by have z:=h.len.2;have D:p<=s.bs.length:=h.src.le;omega) a4 (λw h9=>hU w (h.but.trans h9)) h7;have cS:∀(V:Al) (p:Nat),Az V b {s with pos:=p,within:=l}->An prog 229 #[Ac #[A9 (Aj ⟨b,0,Ak⟩)]] V (DD V b {s with pos:=p,within:=l} (λ_:Unit=>Ab #[]) (Bk s.bs s.lim (s.bs.length+1-p) p)):=λV p hV=>K9 V b {s with pos:=p,within:=l} hV;have cR:∀(V:Al) (p:Nat),Az V b {s with pos:=p,within:=l}->An prog 230 #[Ac #[A9 (Aj ⟨b,0,Ak⟩)],Aa ⟨#[58]⟩] V (DD V b {s with pos:=p,within:=l} (λ_:Unit=>Ab #[]) (Ba s.bs s.lim [58] p)):=λV p hV=>Ma V b {s with pos:=p,within:=l} [58] (by simp) hV;have ag:∀(w:Al) (q:Nat),Az w b {s with pos:=q,within:=l}->AE b W w->An prog 228 #[Ac #[A9 (Aj ⟨b,0,Ak⟩)]] w (Ig k w b {s with pos:=q,within:=l} (Z q)):=λw q z D=>az w q z D;have T:=Ar h.rbox 0;have k2:=Ar h.kbox 0;clear h az hU ax;obtain⟨ao,HR⟩:∃ao,Hid (C0 s.bs s.lim Z a p=ao):=⟨_,show _=_ from rfl⟩
 rw[HR.out];have r:=HR.out;unfold C0 at r;clear HR;go_enter func243,ntmps243
 go_wp2_with fail
 refine cK.mono ?_;clear cK;rintro e w1 ⟨ai,aa⟩
 cases z:El s.bs s.lim a.1 p with
 |error L =>
  obtain⟨C,G⟩:=L;simp only[z]at r aa;subst r;clear z cS cR ag;obtain rfl:=(show B7 C G e from aa)
  go_wp2;exact⟨rfl,rfl,H.out.but.trans' ai⟩
 |ok lq =>
  obtain⟨key,q1⟩:=lq;have bf:=Wn z;simp only[z]at r aa;clear z;obtain⟨rfl,ar,ap⟩:=(show e=Ag (Aa ⟨key.toArray⟩)/\Az w1 b {s with pos:=q1,within:=l}/\Ek w1 (W.heap.size+2) (key::a.1)from aa)
  have u:Hid (DE k W b s N l q1 (key::a.1,a.2) w1):=H.out.step ad ar ai ap ⟨by have:=H.out.len.1;omega,by have:=H.out.len.2;rw[Bq];omega⟩;clear H ar ai ap aa T k2;have T:=Ar u.rbox 0
  go_wp2_with fail
  refine(cS w1 q1 u.src).mono ?_;rintro e w2 ⟨aj,ab⟩
  cases D:Bk s.bs s.lim (s.bs.length+1-q1) q1 with
  |error L =>
   obtain⟨C,G⟩:=L;simp only[D]at r ab;subst r;clear D;obtain rfl:=(show B7 C G e from ab)
   go_wp2;exact⟨rfl,rfl,u.but.trans aj⟩
  |ok uq =>
   obtain⟨u2,q2⟩:=uq;have a5:=FQ _ _ _ _ _ _ D;simp only[D]at r ab;clear D;obtain⟨rfl,au⟩:=(show e=Ag (Ab #[])/\Az w2 b {s with pos:=q2,within:=l}from ab)
   have R:Hid (DE k W b s N l q2 (key::a.1,a.2) w2):=u.go ad au aj a5;clear u au aj ab T;have T:=Ar R.rbox 0
   go_wp2_with fail
   refine(cR w2 q2 R.src).mono ?_;rintro e f ⟨n,o⟩
   cases h3:Ba s.bs s.lim [58] q2 with
   |error L =>
    obtain⟨C,G⟩:=L;simp only[h3]at r o;subst r;clear h3;obtain rfl:=(show B7 C G e from o)
    go_wp2;exact⟨rfl,rfl,R.but.trans n⟩
   |ok uq =>
    obtain⟨u3,Y⟩:=uq;have a6:q2<=Y:=by have:=KW _ _ _ _ _ _ h3;omega
    simp only[h3]at r o;clear h3;obtain⟨rfl,E⟩:=(show e=Ag (Ab #[])/\Az f b {s with pos:=Y,within:=l}from o)
    have g:Hid (DE k W b s N l Y (key::a.1,a.2) f):=R.go ad E n a6;clear R E n o T;have T:=Ar g.rbox 0
    go_wp2_with fail
    refine(cS f Y g.src).mono ?_;rintro e m ⟨ak,ac⟩
    cases h4:Bk s.bs s.lim (s.bs.length+1-Y) Y with
    |error L =>
     obtain⟨C,G⟩:=L;simp only[h4]at r ac;subst r;clear h4;obtain rfl:=(show B7 C G e from ac)
     go_wp2;exact⟨rfl,rfl,g.but.trans ak⟩
    |ok uq =>
     obtain⟨u4,I⟩:=uq;have a7:=FQ _ _ _ _ _ _ h4;simp only[h4]at r ac;clear h4;obtain⟨rfl,av⟩:=(show e=Ag (Ab #[])/\Az m b {s with pos:=I,within:=l}from ac)
     have J:Hid (DE k W b s N l I (key::a.1,a.2) m):=g.go ad av ak a7;clear g av ak ac T
     go_wp2_with fail
     have P:=λw (z:Az w b {s with pos:=I,within:=l}) (D:AE b W w)=>ag w I z D;clear ag;obtain⟨A,F,B,xs,Q,ho,am,an⟩:=J.own;have ho:m.ownsRow (W.heap.size+4) 222 2 (A8 A F B) a.2.length xs:=ho;have an:Hs k m (λj=>W.heap.size+4<=j/\j<m.heap.size/\Aj j≠(Value.slice A F B).ownBlock) xs a.2:=an;have al:W.heap.size+1<(World.drew m).heap.size:=At Q;have X:Az (World.drew m) b {s with pos:=I,within:=l}:=J.src.below (AT _ _).drew;have M:AE b W (World.drew m):=J.but.trans (AE.of_below (AT _ _).drew);have k0:(World.drew m).cell? ⟨W.heap.size+1,0,Ak⟩=Aj (A8 A F B):=Ar Q 0;have T:(World.drew m).cell? ⟨W.heap.size,0,Ak⟩=Aj (A9 (Aj ⟨b,0,Ak⟩)):=Ar J.rbox 0;have a8:=J.size;refine OK (by kernel_rfl) ?_;change wpAny _ _ _ _ _ _ _ (World.drew m);refine wpAny_take (i:=1) (v:=Aa ⟨key.toArray⟩) rfl (by kernel_rfl) (by kernel_rfl) (by kernel_rfl) (λ_ _ _ h=>h) (.inl ⟨rfl,λw=>rfl⟩) ?_
     cases U:Z I with
     |error L =>
      obtain⟨C,G⟩:=L;simp only[U]at r;subst r;rw[U]at P;clear U;refine I9 0 2 rfl rfl (by kernel_rfl) (λK c=>?_) (λK c=>?_)
      ·go_simp;refine c _ _ ?_;clear c;refine D9 2 rfl (by kernel_rfl) (λK c=>?_);go_simp;refine c _ _ ?_;clear c;refine D9 3 rfl (by kernel_rfl) (λK c=>?_);go_simp;refine(P _ X M).mono ?_;rintro e f ⟨n,o⟩;obtain rfl:=(show B7 C G e from o)
       exact⟨rfl,rfl,M.trans n⟩
      go_simp;refine c _ _ ?_;clear c;refine I9 0 3 rfl rfl (by kernel_rfl) (λK c=>?_) (λK c=>?_)
      ·go_simp;refine c _ _ ?_;clear c;refine D9 3 rfl (by kernel_rfl) (λK c=>?_);go_simp;refine(P _ X M).mono ?_;rintro e f ⟨n,o⟩;obtain rfl:=(show B7 C G e from o)
       exact⟨rfl,rfl,M.trans n⟩
      go_simp;refine(P _ X M).mono ?_;rintro e f ⟨n,o⟩;obtain rfl:=(show B7 C G e from o)
      exact⟨rfl,rfl,M.trans n⟩
     |ok dq =>
      obtain⟨d,O⟩:=dq;have bg:=a3 I d O U;simp only[U]at r;subst r;rw[U]at P;clear U;have be:a.2.length<=200000000:=by have z:a.2.length<=I:=J.len.1;have D:I<=s.bs.length:=J.src.le;omega
      refine Wl (β:=TypeId×Am×Al) #[true,true,true,true,true,true,false,false] 2 (λx=>[(13,A8 A F B),(15,Ac #[A9 (Aj ⟨b,0,Ak⟩)]),(16,Ae x.1 x.2.1),(17,Ac #[Aa ⟨key.toArray⟩,Ae x.1 x.2.1]),(18,A8 (Aj ⟨x.2.2.heap.size,0,Ak⟩) 1 1)]) (λx=>AE b (World.drew m) x.2.2/\Az x.2.2 b {s with pos:=O,within:=l}/\AJ k x.2.2 (λj=>(World.drew m).heap.size<=j/\j<x.2.2.heap.size) (Ae x.1 x.2.1) d) (λx=>x.2.2.alloc (Af #[Aa ⟨key.toArray⟩,Ae x.1 x.2.1] 222)) (λae=>?reg) ?tail
      case reg =>
       refine I9 0 2 rfl rfl (by kernel_rfl) (λK c=>?_) (λK c=>?_)
       ·go_simp;refine c _ _ ?_;clear c;refine D9 2 rfl (by kernel_rfl) (λK c=>?_);go_simp;refine c _ _ ?_;clear c;refine D9 3 rfl (by kernel_rfl) (λK c=>?_);go_simp;refine(P _ X M).mono ?_;rintro e f ⟨n,o⟩;obtain⟨⟨t,y,rfl,S⟩,E⟩:=(show(∃t y,e=Ag (Ae t y)/\AJ k f (λj=>(World.drew m).heap.size<=j/\j<f.heap.size) (Ae t y) d)/\Az f b {s with pos:=O,within:=l}from o)
        simp only[];have c3:f.cell? ⟨W.heap.size+1,0,Ak⟩=Aj (A8 A F B):=Ar ((n.block _ al (by omega)).trans Q) 0;have hrel:AE b (World.drew m) f/\Az f b {s with pos:=O,within:=l}/\AJ k f (λj=>(World.drew m).heap.size<=j/\j<f.heap.size) (Ae t y) d:=⟨n,E,S⟩
        refine c _ _ ?_;clear c;refine D9 4 rfl (by kernel_rfl) (λK c=>?_);go_simp;refine c _ _ ?_;clear c;refine D9 5 rfl (by kernel_rfl) (λK c=>?_);go_simp;refine c _ _ ?_;clear c;exact ae ⟨t,y,f⟩ hrel
       go_simp;refine c _ _ ?_;clear c;refine I9 0 3 rfl rfl (by kernel_rfl) (λK c=>?_) (λK c=>?_)
       ·go_simp;refine c _ _ ?_;clear c;refine D9 3 rfl (by kernel_rfl) (λK c=>?_);go_simp;refine(P _ X M).mono ?_;rintro e f ⟨n,o⟩;obtain⟨⟨t,y,rfl,S⟩,E⟩:=(show(∃t y,e=Ag (Ae t y)/\AJ k f (λj=>(World.drew m).heap.size<=j/\j<f.heap.size) (Ae t y) d)/\Az f b {s with pos:=O,within:=l}from o)
        simp only[];have c3:f.cell? ⟨W.heap.size+1,0,Ak⟩=Aj (A8 A F B):=Ar ((n.block _ al (by omega)).trans Q) 0;have hrel:AE b (World.drew m) f/\Az f b {s with pos:=O,within:=l}/\AJ k f (λj=>(World.drew m).heap.size<=j/\j<f.heap.size) (Ae t y) d:=⟨n,E,S⟩
        refine c _ _ ?_;clear c;refine D9 4 rfl (by kernel_rfl) (λK c=>?_);go_simp;refine c _ _ ?_;clear c;refine D9 5 rfl (by kernel_rfl) (λK c=>?_);go_simp;refine c _ _ ?_;clear c;exact ae ⟨t,y,f⟩ hrel
       go_simp;refine(P _ X M).mono ?_;rintro e f ⟨n,o⟩;obtain⟨⟨t,y,rfl,S⟩,E⟩:=(show(∃t y,e=Ag (Ae t y)/\AJ k f (λj=>(World.drew m).heap.size<=j/\j<f.heap.size) (Ae t y) d)/\Az f b {s with pos:=O,within:=l}from o)
       simp only[];have c3:f.cell? ⟨W.heap.size+1,0,Ak⟩=Aj (A8 A F B):=Ar ((n.block _ al (by omega)).trans Q) 0;have hrel:AE b (World.drew m) f/\Az f b {s with pos:=O,within:=l}/\AJ k f (λj=>(World.drew m).heap.size<=j/\j<f.heap.size) (Ae t y) d:=⟨n,E,S⟩
       refine c _ _ ?_;clear c;refine I9 0 4 rfl rfl (by kernel_rfl) (λK c=>?_) (λK c=>?_)
       ·go_simp;refine c _ _ ?_;clear c;refine D9 4 rfl (by kernel_rfl) (λK c=>?_);go_simp;refine c _ _ ?_;clear c;refine D9 5 rfl (by kernel_rfl) (λK c=>?_);go_simp;refine c _ _ ?_;clear c;exact ae ⟨t,y,f⟩ hrel
       go_simp;refine c _ _ ?_;clear c;refine I9 0 5 rfl rfl (by kernel_rfl) (λK c=>?_) (λK c=>?_)
       ·go_simp;refine c _ _ ?_;clear c;refine D9 5 rfl (by kernel_rfl) (λK c=>?_);go_simp;refine c _ _ ?_;clear c;exact ae ⟨t,y,f⟩ hrel
       go_simp;refine c _ _ ?_;clear c;refine D9 0 rfl (by kernel_rfl) (λK c=>?_);have c4:(f.alloc (Af #[Aa ⟨key.toArray⟩,Ae t y] 222)).cell? ⟨W.heap.size+1,0,Ak⟩=Aj (A8 A F B):=(Ck f _ _ (by rw[c3];rfl)).trans c3;go_simp;refine c _ _ ?_;clear c;exact ae ⟨t,y,f⟩ hrel
      case tail =>
       rintro⟨t,y,f⟩ ⟨n,E,S⟩;simp only[]at n E S ⊢;have af:AE b m f:=(AE.of_below (AT _ _).drew).trans n;have a1:f.ownsRow (W.heap.size+4) 222 2 (A8 A F B) a.2.length xs:=RX ho af (by omega);have bh:W.heap.size+4<=f.heap.size:=AW a8 af.size;simp only[List.foldl];refine D9 6 rfl (by kernel_rfl) (λK c=>?_);rw[As (by rfl)];refine Wm _ _ 220 rfl (W.heap.size+4) 222 i0 (Ac #[.string ByteArray.empty,.nilIface]) 2 32 underlying220 hi ba bb bc rfl (by decide) _ _ _ rfl (a1.alloc _) ⟨f.heap.size,0,Ak⟩ 1 1 [Aa ⟨key.toArray⟩,Ae t y] rfl rfl (Bf _ _ _) (λbj hu=>by simp at hu;rcases hu with rfl|rfl<;>rfl) (by decide) (by unfold maxLen;omega) (by omega) (by simp;omega) ?_;intro v' w5 ay aw a9;have hJ:DE k W b s N l O (key::a.1,a.2++[(.string key,d)]) (w5.setCell ⟨W.heap.size+1,0,Ak⟩ v'):=J.push h0 ad af E S Q ho am an ay aw a9 (by have z:a.2.length<=I:=J.len.1;omega) (by have z:(key::a.1).length<=I:=J.len.2;omega);have aq:w5.heap[W.heap.size+1]?=Aj (Af #[A8 A F B] 220):=(aw.block _ (by simp;omega) (λe=>by have:=E7 ho e.symm;omega)).trans ((AL _ _ _ (by omega)).trans ((af.block _ (At Q) (by omega)).trans Q));have c5:w5.cell? ⟨W.heap.size+1,0,Ak⟩=Aj (A8 A F B):=Ar aq 0;have f5:w5.frozen? ⟨W.heap.size+1,0,Ak⟩=false:=Cx w5 _ 0 _ _ aq;obtain⟨g5,bd,rfl⟩:=ownsRow_succ ay;refine c _ _ ?_;clear c;refine D9 7 rfl (by kernel_rfl) (λK c=>?_);go_simp;refine c _ _ ?_;clear c;refine R8 (by kernel_rfl) ?_ _;go_end0;exact⟨rfl,hJ⟩
end
end Go.Proofs.YtoegnhgofkhbnaaGreatDoor
