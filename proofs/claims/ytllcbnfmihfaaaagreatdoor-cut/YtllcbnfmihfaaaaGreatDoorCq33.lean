import Derived.Test.YtllcbnfmihfaaaaGreatDoorCq32
set_option maxRecDepth 100000
set_option maxHeartbeats 8000000
namespace Go.Proofs.YtllcbnfmihfaaaaGreatDoor
open Go.Proofs.Tryz
variable {P:Program}{Q:Exit→Act→World→Prop}{N b c k l p q wi wi':Nat}{a:List (List UInt8)×List (Lit×DataW Unit)}{V V' V3 W w w5:World}{s:Src}{ds:List (DataW Unit)}{d:DataW Unit}{v' x:Value}{xs:List Value}{ks:List (List UInt8)}
section
open Go.RowKit
theorem qoU {β:Type}{md:Region.Mode}{ops:Array Oper}{fuel:Nat}{listed:Array Bool}{a:Act}(L:Array Bool)(fu:Nat)(vs:β→List (Nat×Value))(T:β→Prop)(wd:β→World)(hr:(∀x,T x→wpAny P md ops Q fu L ((vs x).foldl (fun a p=>a.put (some p.1) p.2) a) (wd x))→wpAny P md ops Q fuel listed a w)(ht:∀x,T x→wpAny P md ops Q fu L ((vs x).foldl (fun a p=>a.put (some p.1) p.2) a) (wd x)):wpAny P md ops Q fuel listed a w:=hr ht
theorem qcY {o:Oper}{a:Act}{K:Act→World→Prop}(s x:Operand)(t:TypeId)(ho:o.op=.call {callee:=.builtin .append,args:=#[s,x],argTypes:=#[t,t]})(base:Nat)(e:TypeId)(i:TypeInfo)(z:Value)(size bytes:Nat)(ht:P.underlying t=some (.slice e))(hi:P.info? e=some i)(hz:i.zero=some z)(hsize:i.size=size)(hby:i.bytes=bytes)(hzs:z.cells.size=size)(hsz:0<size)(v:Value)(n:Nat)(xs:List Value)(hs:a.eval s=v)(hown:w.ownsRow base e size v n xs)(ad:Addr)(m c:Nat)(news:List Value)(hx:a.eval x=.slice (some ad) m c)(hl:news.length=m*size)(hnews:∀j u,news[j]? = some u→w.cell? (ad.add j)=some u)(h1:∀u∈news,u.oneCell'=true)(hm:0<m)(h63:n+m≤maxLen)(hbytes:(n+m)*bytes≤140737488355328)(hbase:base≤w.heap.size)(h:∀v' w',w'.ownsRow base e size v' (n+m) (xs++news)→w.grownBy w' v.ownBlock→(v'.ownBlock=v.ownBlock∨v'.ownBlock=some w.heap.size)→K (a.put o.dst v') w'):o.wp P a w K Q:=by
 obtain⟨v',w',hr,h2,h3,_⟩:=run_append_own (P:=P) w base t o.type e i z size bytes ht hi hz hsize hby hzs hsz v n xs hown ad m c news hl hnews h1 h63 hbytes hbase;have h4:=qcS (P:=P) w base t o.type e i z size bytes ht hi hz hsize hby v n xs hown ad m c news hl hnews h1 hm h63 hbytes hr;unfold Oper.wp execOp;simp only[ho,resolve,invoke,builtin,Sem.run_bind,Sem.run_pure,Result.andThen_ok,List.map_toArray,List.map_cons,List.map_nil,hs,hx,hr];exact h v' w' h2 h3 h4
structure qnp (k:Nat)(W:World)(b:Nat)(s:Src)(N wi p:Nat)(ds:List (DataW Unit))(V:World):Prop where
 src:qad V b {s with pos:=p,within:=wi}
 but:But b W V
 rbox:V.heap[W.heap.size]? = some (.cells #[.pointer (some ⟨b,0,none⟩)] 198)
 box:V.heap[N]? = some (.cells #[.pointer (some ⟨b,0,none⟩)] 198)
 hN:W.heap.size+2≤N
 own:∃a l c xs,V.heap[W.heap.size+1]? = some (.cells #[.slice a l c] 204)∧V.ownsRow (W.heap.size+2) 81 1 (.slice a l c) ds.length xs∧some N≠(Value.slice a l c).ownBlock∧∀(i:Nat) (x:Value) (d:DataW Unit),xs[i]? = some x→ds[i]? = some d→qai k V (fun j=>W.heap.size+2≤j∧j<V.heap.size∧some j≠(Value.slice a l c).ownBlock) x d
 size:W.heap.size+2≤V.heap.size
 len:ds.length≤p
theorem qnp.step (h:qnp k W b s N wi p ds V)(hb:b<W.heap.size)(hs:qad V' b {s with pos:=q,within:=wi' })(hB:But b V V')(hpq:ds.length≤q):qnp k W b s N wi' q ds V':=by
 obtain⟨a,l,c,xs,h0,h1,h2,h3⟩:=h.own;have hsz:=h.size;have hN:=h.hN;exact⟨hs,h.but.trans hB,(hB.block _ (ltA h.rbox) (by omega)).trans h.rbox,(hB.block _ (ltA h.box) (by omega)).trans h.box,h.hN,⟨a,l,c,xs,(hB.block _ (ltA h0) (by omega)).trans h0,qcM h1 hB (by omega),h2,fun i x d hx hd=>(h3 i x d hx hd).same (fun j hj=>⟨hj.1,Nat.lt_of_lt_of_le hj.2.1 hB.size,hj.2.2⟩) (fun j hj=>hB.block j hj.2.1 (by omega))⟩,Nat.le_trans h.size hB.size,hpq⟩
theorem qnp.push {a:Option Addr}(h:qnp k W b s N wi p ds V)(h0:qad W b s)(hb:b<W.heap.size)(hB:But b V V3)(hS:qad V3 b {s with pos:=q,within:=wi})(hd:qai k V3 (fun j=>V.heap.size≤j∧j<V3.heap.size) x d)(hL:V.heap[W.heap.size+1]? = some (.cells #[.slice a l c] 204))(ho:V.ownsRow (W.heap.size+2) 81 1 (.slice a l c) ds.length xs)(hne:some N≠(Value.slice a l c).ownBlock)(hxs:∀(i:Nat) (x:Value) (d:DataW Unit),xs[i]? = some x→ds[i]? = some d→qai k V (fun j=>W.heap.size+2≤j∧j<V.heap.size∧some j≠(Value.slice a l c).ownBlock) x d)(ho':w5.ownsRow (W.heap.size+2) 81 1 v' (ds.length+1) (xs++[x]))(hg:(V3.alloc (.cells #[x] 81)).grownBy w5 (Value.slice a l c).ownBlock)(hw:v'.ownBlock=(Value.slice a l c).ownBlock∨v'.ownBlock=some (V3.alloc (.cells #[x] 81)).heap.size)(hlen:ds.length+1≤q):qnp k W b s N wi q (ds++[d]) (w5.setCell ⟨W.heap.size+1,0,none⟩ v'):=by
 have hsz:=h.size;have hN:=h.hN;have hNlt:=ltA h.box;have hB3:=hB.size;have hgs:V3.heap.size+1≤w5.heap.size:=by have:=hg.size;simpa using this
 have key:∀g,(Value.slice a l c).ownBlock=some g→W.heap.size+2≤g:=fun g hg=>qbA ho hg;have klt:=qhh ho;have hkeep:∀j,j<V3.heap.size→some j≠(Value.slice a l c).ownBlock→j≠W.heap.size+1→(w5.setCell ⟨W.heap.size+1,0,none⟩ v').heap[j]? = V3.heap[j]?:=fun j hj hn hl=>(heap_setCell_other w5 _ _ _ (by simpa using hl)).trans ((hg.block j (by simp;omega) hn).trans (Below.heap_alloc _ _ _ hj));have hlow:∀j,j<W.heap.size+1→(w5.setCell ⟨W.heap.size+1,0,none⟩ v').heap[j]? = V3.heap[j]?:=fun j hj=>hkeep j (by omega) (fun e=>by have:=key j e.symm;omega) (by omega);have hL5:=(hg.block _ (by simp;omega) (fun e=>by have:=key _ e.symm;omega)).trans ((Below.heap_alloc _ _ _ (by omega)).trans ((hB.block _ (ltA hL) (by omega)).trans hL));have hsz2:(w5.setCell ⟨W.heap.size+1,0,none⟩ v').heap.size=w5.heap.size:=by simp[World.setCell]
 obtain⟨g5,cap5,rfl⟩:=ownsRow_succ ho';have ho5:(w5.setCell ⟨W.heap.size+1,0,none⟩ (.slice (some ⟨g5,0,none⟩) (ds.length+1) cap5)).ownsRow (W.heap.size+2) 81 1 (.slice (some ⟨g5,0,none⟩) (ds.length+1) cap5) (ds.length+1) (xs++[x]):=by
  refine⟨ho'.1,?_⟩;rcases ho'.2 with h2|⟨g,cap,cur,e,hbb,hgg,h5⟩
  ·exact .inl h2
  exact .inr ⟨g,cap,cur,e,hbb,(heap_setCell_other w5 _ _ _ (by simp;omega)).trans hgg,h5⟩
 have hne5:∀j,j<V3.heap.size→some j≠(Value.slice a l c).ownBlock→some j≠(Value.slice (some ⟨g5,0,none⟩) (ds.length+1) cap5).ownBlock:=fun j hj hn=>by
  rcases hw with hw|hw
  ·rw[hw];exact hn
  rw[hw];intro e;injection e with e;simp at e;omega
 refine⟨h0.same rfl rfl hS (fun j hj=>hlow j (by omega)),⟨hg.os.trans (hB.os.trans h.but.os),hg.tape.trans (hB.tape.trans h.but.tape),hg.output.trans (hB.output.trans h.but.output),by rw[hsz2];have:=h.but.size;omega,fun j hj hn=>(hlow j (by omega)).trans ((hB.block j (by omega) hn).trans (h.but.block j hj hn))⟩,(hlow _ (by omega)).trans ((hB.block _ (by omega) (by omega)).trans h.rbox),(hkeep N (by omega) hne (by omega)).trans ((hB.block N hNlt (by omega)).trans h.box),h.hN,⟨_,_,_,_,?_,by rw[List.length_append];exact ho5,?_,fun i y dd hy hc => ?_⟩,by rw[hsz2];omega,by rw[List.length_append];exact hlen⟩
 ·rw[heap_setCell_same _ _ _ _ _ _ hL5];rfl
 ·exact hne5 N (by omega) hne
 have hxl:xs.length=ds.length:=by have:=ho.1;omega
 by_cases hi:i<ds.length
 ·rw[List.getElem?_append_left (by omega)] at hy hc;exact(hxs i y dd hy hc).same (fun j hj=>⟨hj.1,by rw[hsz2];have:=hj.2.1;omega,hne5 j (by omega) hj.2.2⟩) (fun j hj=>(hkeep j (by omega) hj.2.2 (by omega)).trans (hB.block j hj.2.1 (by omega)))
 have e:i=ds.length:=by
  have:=ltL hc;rw[List.length_append] at this;simp at this;omega
 subst e;rw[List.getElem?_append_right (by omega)] at hc;rw[List.getElem?_append_right (by omega),hxl] at hy;simp at hy hc;subst hy;subst hc;have hoff:∀j,V.heap.size≤j→some j≠(Value.slice a l c).ownBlock:=fun j hj e=>by have:=klt j e.symm;omega
 exact hd.same (fun j hj=>⟨by omega,by rw[hsz2];omega,hne5 j hj.2 (hoff j hj.1)⟩) (fun j hj=>hkeep j hj.2 (hoff j hj.1) (by omega))
theorem qqb (k:Nat)(W:World)(b:Nat)(s:Src)(wi:Nat)(rd:Nat→Except (Int×Int) (DataW Unit×Nat))(h0:qad W b s)(hrd:qgg k b {s with within:=wi} W rd)(hgo:∀p d q,rd p=.ok (d,q)→p<q)(hlen:s.bs.length≤200000000)(N p:Nat)(ds:List (DataW Unit))(V:World)(h:qnp k W b s N wi p ds V):Calls prog 310 #[.pointer (some ⟨W.heap.size+1,0,none⟩),.pointer (some ⟨W.heap.size,0,none⟩)] V (qc9 (qnp k W b s N wi) (fun V=>But b W V) (liJ rd ds p)):=by
 obtain⟨i0,hi,hz0,hz1,hz2⟩:=info_parts Tryz.infoThing;have hbN:=ltA h0.row;obtain⟨a0,l0,c0,xs,hL,ho,hne,hxs⟩:=h.own;have hLlt:W.heap.size+1<(World.drew V).heap.size:=ltA hL;have hal:ds.length≤200000000:=by have h1:=h.len;have h2:p≤s.bs.length:=h.src.le;omega
 have hSd:=h.src.below (Below.refl _ _).drew;have hBd:=h.but.trans (But.of_below (Below.refl _ _).drew);have k0:(World.drew V).cell? ⟨W.heap.size+1,0,none⟩=some (.slice a0 l0 c0):=qab hL 0;have k1:(World.drew V).cell? ⟨W.heap.size,0,none⟩=some (.pointer (some ⟨b,0,none⟩)):=qab h.rbox 0;have hsz:=h.size;have cT:∀V9,qad V9 b {s with pos:=p,within:=wi}→But b W V9→Calls prog 296 #[.agg #[.pointer (some ⟨b,0,none⟩)]] V9 (qc7 k V9 b {s with pos:=p,within:=wi} (rd p)):=fun V9 h1 h2=>hrd V9 p h1 h2
 cases hq:rd p with
 |error er =>
  obtain⟨en,pl⟩:=er;have hr:liJ rd ds p=.error (en,pl):=by unfold liJ;rw[hq]
  rw[hr];rw[hq] at cT;go_enter func310,ntmps310
  go_wp2_with fail
  refine wp_region_any (by kernel_rfl) ?_;change wpAny _ _ _ _ _ _ _ (World.drew V);refine rd2 0 1 rfl rfl (by kernel_rfl) (fun K hK => ?_) (fun K hK => ?_)
  ·go_simp;refine hK _ _ ?_;refine rd1 1 rfl (by kernel_rfl) (fun K hK => ?_);go_simp;refine hK _ _ ?_;refine rd1 2 rfl (by kernel_rfl) (fun K hK => ?_);go_simp;refine(cT _ hSd hBd).mono ?_;rintro e w3 ⟨hB3,hF3⟩;obtain rfl:=(show qao en pl e from hF3)
   exact⟨rfl,rfl,hBd.trans hB3⟩
  go_simp;refine hK _ _ ?_;refine rd2 0 2 rfl rfl (by kernel_rfl) (fun K hK => ?_) (fun K hK => ?_)
  ·go_simp;refine hK _ _ ?_;refine rd1 2 rfl (by kernel_rfl) (fun K hK => ?_);go_simp;refine(cT _ hSd hBd).mono ?_;rintro e w3 ⟨hB3,hF3⟩;obtain rfl:=(show qao en pl e from hF3)
   exact⟨rfl,rfl,hBd.trans hB3⟩
  go_simp;refine(cT _ hSd hBd).mono ?_;rintro e w3 ⟨hB3,hF3⟩;obtain rfl:=(show qao en pl e from hF3)
  exact⟨rfl,rfl,hBd.trans hB3⟩
 |ok dq =>
  obtain⟨d,q⟩:=dq;have hr:liJ rd ds p=.ok (ds++[d],q):=by unfold liJ;rw[hq]
  rw[hr];have hpq:=hgo p d q hq;rw[hq] at cT;go_enter func310,ntmps310
  go_wp2_with fail
  refine wp_region_any (by kernel_rfl) ?_;change wpAny _ _ _ _ _ _ _ (World.drew V);refine qoU (β:=TypeId×Value×World) #[true,true,true,true,false,false] 2 (fun x=>[(2,.slice a0 l0 c0),(3,.agg #[.pointer (some ⟨b,0,none⟩)]),(4,.iface x.1 x.2.1),(5,.slice (some ⟨x.2.2.heap.size,0,none⟩) 1 1)]) (fun x=>But b (World.drew V) x.2.2∧qad x.2.2 b {s with pos:=q,within:=wi}∧qai k x.2.2 (fun j=>(World.drew V).heap.size≤j∧j<x.2.2.heap.size) (.iface x.1 x.2.1) d) (fun x=>x.2.2.alloc (.cells #[.iface x.1 x.2.1] 81)) (fun hvia => ?reg) ?tail
  case reg =>
   refine rd2 0 1 rfl rfl (by kernel_rfl) (fun K hK => ?_) (fun K hK => ?_)
   ·go_simp;refine hK _ _ ?_;refine rd1 1 rfl (by kernel_rfl) (fun K hK => ?_);go_simp;refine hK _ _ ?_;refine rd1 2 rfl (by kernel_rfl) (fun K hK => ?_);go_simp;refine(cT _ hSd hBd).mono ?_;rintro e w3 ⟨hB3,hF3⟩;obtain⟨⟨t,y,rfl,hd3⟩,hS3⟩:=(show(∃t y,e=.returned (.iface t y)∧qai k w3 (fun j=>(World.drew V).heap.size≤j∧j<w3.heap.size) (.iface t y) d)∧qad w3 b {s with pos:=q,within:=wi} from hF3)
    simp only[];have c3:w3.cell? ⟨W.heap.size+1,0,none⟩=some (.slice a0 l0 c0):=qab ((hB3.block _ hLlt (by omega)).trans hL) 0;have hrel:But b (World.drew V) w3∧qad w3 b {s with pos:=q,within:=wi}∧qai k w3 (fun j=>(World.drew V).heap.size≤j∧j<w3.heap.size) (.iface t y) d:=⟨hB3,hS3,hd3⟩
    refine hK _ _ ?_;refine rd1 3 rfl (by kernel_rfl) (fun K hK => ?_);go_simp;refine hK _ _ ?_;exact hvia ⟨t,y,w3⟩ hrel
   go_simp;refine hK _ _ ?_;refine rd2 0 2 rfl rfl (by kernel_rfl) (fun K hK => ?_) (fun K hK => ?_)
   ·go_simp;refine hK _ _ ?_;refine rd1 2 rfl (by kernel_rfl) (fun K hK => ?_);go_simp;refine(cT _ hSd hBd).mono ?_;rintro e w3 ⟨hB3,hF3⟩;obtain⟨⟨t,y,rfl,hd3⟩,hS3⟩:=(show(∃t y,e=.returned (.iface t y)∧qai k w3 (fun j=>(World.drew V).heap.size≤j∧j<w3.heap.size) (.iface t y) d)∧qad w3 b {s with pos:=q,within:=wi} from hF3)
    simp only[];have c3:w3.cell? ⟨W.heap.size+1,0,none⟩=some (.slice a0 l0 c0):=qab ((hB3.block _ hLlt (by omega)).trans hL) 0;have hrel:But b (World.drew V) w3∧qad w3 b {s with pos:=q,within:=wi}∧qai k w3 (fun j=>(World.drew V).heap.size≤j∧j<w3.heap.size) (.iface t y) d:=⟨hB3,hS3,hd3⟩
    refine hK _ _ ?_;refine rd1 3 rfl (by kernel_rfl) (fun K hK => ?_);go_simp;refine hK _ _ ?_;exact hvia ⟨t,y,w3⟩ hrel
   go_simp;refine(cT _ hSd hBd).mono ?_;rintro e w3 ⟨hB3,hF3⟩;obtain⟨⟨t,y,rfl,hd3⟩,hS3⟩:=(show(∃t y,e=.returned (.iface t y)∧qai k w3 (fun j=>(World.drew V).heap.size≤j∧j<w3.heap.size) (.iface t y) d)∧qad w3 b {s with pos:=q,within:=wi} from hF3)
   simp only[];have c3:w3.cell? ⟨W.heap.size+1,0,none⟩=some (.slice a0 l0 c0):=qab ((hB3.block _ hLlt (by omega)).trans hL) 0;have hrel:But b (World.drew V) w3∧qad w3 b {s with pos:=q,within:=wi}∧qai k w3 (fun j=>(World.drew V).heap.size≤j∧j<w3.heap.size) (.iface t y) d:=⟨hB3,hS3,hd3⟩
   refine hK _ _ ?_;refine rd2 0 3 rfl rfl (by kernel_rfl) (fun K hK => ?_) (fun K hK => ?_)
   ·go_simp;refine hK _ _ ?_;refine rd1 3 rfl (by kernel_rfl) (fun K hK => ?_);go_simp;refine hK _ _ ?_;exact hvia ⟨t,y,w3⟩ hrel
   go_simp;refine hK _ _ ?_;refine rd1 0 rfl (by kernel_rfl) (fun K hK => ?_);have c4:(w3.alloc (.cells #[.iface t y] 81)).cell? ⟨W.heap.size+1,0,none⟩=some (.slice a0 l0 c0):=(World.cell?_alloc_some w3 _ _ (by rw[c3];rfl)).trans c3;go_simp;refine hK _ _ ?_;exact hvia ⟨t,y,w3⟩ hrel
  case tail =>
   rintro⟨t,y,w3⟩ ⟨hB3,hS3,hd3⟩;simp only[] at hB3 hS3 hd3 ⊢;have hB3':=(But.of_below (Below.refl _ _).drew).trans hB3;have hO3:=qcM ho hB3' (by omega);have hw3:=Nat.le_trans hsz hB3'.size;simp only[List.foldl];refine rd1 4 rfl (by kernel_rfl) (fun K hK => ?_);rw[if_pos (by rfl)];refine qcY _ _ 204 rfl (W.heap.size+2) 81 i0 .nilIface 1 16 underlying204 hi hz0 hz1 hz2 rfl (by decide) _ _ _ rfl (hO3.alloc _) ⟨w3.heap.size,0,none⟩ 1 1 [.iface t y] rfl rfl (qag _ _ _) (fun u hu=>by simp at hu;subst hu;rfl) (by decide) (by unfold maxLen;omega) (by omega) (by simp;omega) ?_;intro v' w5 hown' hgrow5 hw5;have hJ:=h.push h0 hbN hB3' hS3 hd3 hL ho hne hxs hown' hgrow5 hw5 (by have:=h.len;omega);have hL5:=(hgrow5.block _ (by simp;omega) (fun e=>by have:=qbA ho e.symm;omega)).trans ((Below.heap_alloc _ _ _ (by omega)).trans ((hB3'.block _ (ltA hL) (by omega)).trans hL));have c5:w5.cell? ⟨W.heap.size+1,0,none⟩=some (.slice a0 l0 c0):=qab hL5 0;have f5:=frozen_of_row w5 _ 0 _ _ hL5;obtain⟨g5,cap5,rfl⟩:=ownsRow_succ hown';refine hK _ _ ?_;refine rd1 5 rfl (by kernel_rfl) (fun K hK => ?_);go_simp;refine hK _ _ ?_;refine wpAny_done (by kernel_rfl) ?_ _;go_end0;exact⟨rfl,hJ⟩
theorem qet (bs:List UInt8)(lim:Int):∀(g p wh:Nat) (acc l:List UInt8) (r:Nat),qfe bs lim g p acc wh=.ok (l,r)→p<r∧l.length+4*p≤acc.length+4*r
 |0,p,wh,acc,l,r,h=>by rw[qfe] at h;cases h
 |g+1,p,wh,acc,l,r,h=>by
  rw[qfe] at h;split at h
  ·cases h
  split at h
  ·cases h
  split at h
  ·injection h with h;injection h with h1 h2;subst h1;omega
  split at h
  ·split at h
   ·cases h
   next rr q hq =>
   have h1:=qet bs lim g q _ _ l r h;have h2:=(qjf hq).2;have h3:=(qcg rr).2;rw[List.length_append] at h1;omega
  split at h
  ·cases h
  split at h
  ·cases h
  have h1:=qet bs lim g (p+1) _ _ l r h;rw[List.length_append] at h1;simp at h1;omega
theorem qcb (bs:List UInt8)(lim:Int):∀(l:List UInt8) (p:Nat) (u:Unit) (q:Nat),qaT bs lim l p=.ok (u,q)→q=p+l.length
 |[],p,u,q,h=>by
  rw[qaT] at h;injection h with h;injection h with h1 h2;simp[h2]
 |x::xs,p,u,q,h=>by
  rw[qaT] at h;split at h
  ·cases h
  split at h
  ·cases h
  split at h
  ·have:=qcb bs lim xs (p+1) u q h;simp;omega
  cases h
theorem qpR {bs:List UInt8}{lim:Int}{l:List UInt8}(h:qmo bs lim ks p=.ok (l,q)):p<q:=by
 unfold qmo at h;split at h
 ·cases h
 next u q1 h1 =>
 split at h
 ·cases h
 next l' r h2 =>
 split at h
 ·cases h
 injection h with h;injection h with h3 h4;have:=qcb _ _ _ _ _ _ h1;have:=qet _ _ _ _ _ _ _ _ h2;omega
def qjS (W:World)(b m:Nat)(s:Src)(ks:List (List UInt8))(r:Except (Int×Int) (List UInt8×Nat))(e:Ending)(W':World):Prop :=
 qiO b m W W'∧match r with
 |.ok (l,p)=>e=.returned (.string ⟨l.toArray⟩)∧qad W' b {s with pos:=p}∧qaE W' m (l::ks)
 |.error (en,pl)=>qao en pl e
theorem qjV (W:World)(b m:Nat)(s:Src)(ks:List (List UInt8))(h:qad W b s)(hk:qaE W m ks)(hmb:m≠b)(hig:∀g off,s.bs≠[]→s.ia=some ⟨g,off,none⟩→g≠m)(hkl:ks.length<1000000000)(hlen:s.bs.length≤200000000)(hU:∀V,But b W V→U8 V)(h7:7<b):Calls prog 312 #[.agg #[.pointer (some ⟨b,0,none⟩)],.map (some m)] W (qjS W b m s ks (qmo s.bs s.lim ks s.pos)):=by
 have HX:=qaa (qaR h);have cA:=qbv _ b s [34] (by simp) HX.out.src;have cX:∀(V:World) (p:Nat),qad V b {s with pos:=p}→But b W V→Calls prog 299 #[.agg #[.pointer (some ⟨b,0,none⟩)]] V (qbJ V b {s with pos:=p} (fun l:List UInt8=>.string ⟨l.toArray⟩) (qfe s.bs s.lim (s.bs.length+1-p) p [] 0)):=fun V p hV hB=>qeQ V b {s with pos:=p} hV (hU V hB) h7 hlen;have cR2:∀(V:World) (p:Nat),qad V b {s with pos:=p}→Calls prog 295 #[.pointer (some ⟨b,0,none⟩),.int .i64 12] V fun e W'=>qao 12 ((p:Int)-1) e∧W'=V:=fun V p hV=>qat V b {s with pos:=p} 12 hV;have HKS:Hid (∀V,But b W V→qaE V m ks):=fun V hV=>hk.but hmb hV;have HOFF:Hid (∀V V' p,qad V b {s with pos:=p}→But m V V'→qad V' b {s with pos:=p}):=fun V V' p hV hB=>hV.off hmb hig hB;obtain⟨R,HR⟩:∃R,Hid (qmo s.bs s.lim ks s.pos=R):=⟨_,show _=_ from rfl⟩
 rw[HR.out];have hr:=HR.out;unfold qmo at hr;have k0:=qab HX.out.box 0
 cases ha:qaT s.bs s.lim [34] s.pos with
 |error er =>
  rw[ha] at hr cA;simp only[] at hr;subst hr;obtain⟨en,pl⟩:=er;go_enter func312,ntmps312
  go_wp2_with (first
   |(go_at_call 298;refine cA.mono ?_;rintro e w2 ⟨hB2,hF2⟩;obtain rfl:=(show qao en pl e from hF2)))
  exact⟨rfl,.of1 (HX.out.but.trans hB2),rfl⟩
 |ok uq =>
  obtain⟨u,q⟩:=uq;rw[ha] at hr cA;simp only[] at hr;have cX1:=fun V9 (hs:qad V9 b {s with pos:=q}) (hb:But b W V9)=>cX V9 q hs hb
  cases hz:qfe s.bs s.lim (s.bs.length+1-q) q [] 0 with
  |error er =>
   rw[hz] at hr cX1;simp only[] at hr;subst hr;obtain⟨en,pl⟩:=er;go_enter func312,ntmps312
   go_wp2_with (first
    |(go_at_call 298;refine cA.mono ?_;rintro e w2 ⟨hB2,hF2⟩;obtain⟨rfl,hS2⟩:=(show e=.returned (.tuple #[])∧qad w2 b {s with pos:=q} from hF2);have HX2:=qaa (HX.out.step hS2 hB2);have k0:=qab HX2.out.box 0;have cX2:=cX1 w2 HX2.out.src HX2.out.but)
    |(go_at_call 299;refine cX2.mono ?_;rintro e w3 ⟨hB3,hF3⟩;obtain rfl:=(show qao en pl e from hF3)))
   exact⟨rfl,.of1 (HX2.out.but.trans hB3),rfl⟩
  |ok lr =>
   obtain⟨l,r⟩:=lr;rw[hz] at hr cX1;simp only[] at hr;have hll:=qet _ _ _ _ _ _ _ _ hz;simp only[List.length_nil,Nat.zero_add] at hll;by_cases hin:l∈ks
   ·rw[if_pos hin] at hr;subst hr;have HIN:=qaa hin;go_enter func312,ntmps312
    go_wp2_with (first
     |(go_at_call 298;refine cA.mono ?_;rintro e w2 ⟨hB2,hF2⟩;obtain⟨rfl,hS2⟩:=(show e=.returned (.tuple #[])∧qad w2 b {s with pos:=q} from hF2);have HX2:=qaa (HX.out.step hS2 hB2);have k0:=qab HX2.out.box 0;have cX2:=cX1 w2 HX2.out.src HX2.out.but)
     |(go_at_call 299;refine cX2.mono ?_;rintro e w3 ⟨hB3,hF3⟩;obtain⟨rfl,hS3⟩:=(show e=.returned (.string ⟨l.toArray⟩)∧qad w3 b {s with pos:=r} from hF3);have HX3:=qaa (HX2.out.step hS3 hB3);have HLL:Hid (l.length≤1000000000):=(show _≤_ from by have h1:r≤s.bs.length:=hS3.le;omega);have k0:=qab HX3.out.box 0)
     |(go_at_call 318;refine(qht w3 m ks l (HKS.out w3 HX3.out.but) HIN.out HLL.out).mono ?_;rintro e w7 ⟨rfl,hB7⟩;have HX7:=qaa (HX3.out.step (HX3.out.src.below hB7) (But.of_below hB7));have k0:=qab HX7.out.box 0;have cR3:=cR2 w7 r HX7.out.src)
     |(go_at_call 295;refine cR3.mono ?_;rintro e w8 ⟨hF,rfl⟩;obtain rfl:=hF))
    exact⟨rfl,.of1 HX7.out.but,rfl⟩
   rw[if_neg hin] at hr;subst hr;have HIN:=qaa hin;go_enter func312,ntmps312
   go_wp2_with (first
    |(go_at_call 298;refine cA.mono ?_;rintro e w2 ⟨hB2,hF2⟩;obtain⟨rfl,hS2⟩:=(show e=.returned (.tuple #[])∧qad w2 b {s with pos:=q} from hF2);have HX2:=qaa (HX.out.step hS2 hB2);have k0:=qab HX2.out.box 0;have cX2:=cX1 w2 HX2.out.src HX2.out.but)
    |(go_at_call 299;refine cX2.mono ?_;rintro e w3 ⟨hB3,hF3⟩;obtain⟨rfl,hS3⟩:=(show e=.returned (.string ⟨l.toArray⟩)∧qad w3 b {s with pos:=r} from hF3);have HX3:=qaa (HX2.out.step hS3 hB3);have HLL:Hid (l.length≤1000000000):=(show _≤_ from by have h1:r≤s.bs.length:=hS3.le;omega);have k0:=qab HX3.out.box 0)
    |(go_at_call 318;refine(ql3 w3 m ks l (HKS.out w3 HX3.out.but) HIN.out hkl HLL.out).mono ?_;rintro e w7 ⟨rfl,hK7,hB7⟩))
   go_ret;exact⟨(qiO.of1 HX3.out.but).trans (qiO.of2 hB7),rfl,HOFF.out _ _ _ HX3.out.src hB7,hK7⟩
structure qfs (k:Nat)(W:World)(b:Nat)(s:Src)(N wi p:Nat)(a:List (List UInt8)×List (Lit×DataW Unit))(V:World):Prop where
 src:qad V b {s with pos:=p,within:=wi}
 but:But b W V
 rbox:V.heap[W.heap.size]? = some (.cells #[.pointer (some ⟨b,0,none⟩)] 198)
 kbox:V.heap[W.heap.size+3]? = some (.cells #[.map (some (W.heap.size+2))] 414)
 keys:qaE V (W.heap.size+2) a.1
 box:V.heap[N]? = some (.cells #[.pointer (some ⟨b,0,none⟩)] 198)
 hN:W.heap.size+4≤N
 own:∃ad l c xs,V.heap[W.heap.size+1]? = some (.cells #[.slice ad l c] 206)∧V.ownsRow (W.heap.size+4) 208 2 (.slice ad l c) a.2.length xs∧some N≠(Value.slice ad l c).ownBlock∧qcq k V (fun j=>W.heap.size+4≤j∧j<V.heap.size∧some j≠(Value.slice ad l c).ownBlock) xs a.2
 size:W.heap.size+4≤V.heap.size
 len:a.2.length≤p∧a.1.length≤p
theorem qfs.step (h:qfs k W b s N wi p a V)(hb:b<W.heap.size)(hs:qad V' b {s with pos:=q,within:=wi' })(hB:qiO b (W.heap.size+2) V V')(hk:qaE V' (W.heap.size+2) ks)(hlen:a.2.length≤q∧ks.length≤q):qfs k W b s N wi' q (ks,a.2) V':=by
 obtain⟨ad,l,c,xs,h0,h1,h2,h3⟩:=h.own;have hsz:=h.size;have hN:=h.hN;exact⟨hs,h.but.trans' hB,(hB.block _ (ltA h.rbox) (by omega) (by omega)).trans h.rbox,(hB.block _ (ltA h.kbox) (by omega) (by omega)).trans h.kbox,hk,(hB.block _ (ltA h.box) (by omega) (by omega)).trans h.box,h.hN,⟨ad,l,c,xs,(hB.block _ (ltA h0) (by omega) (by omega)).trans h0,qeO h1 hB (by omega) (by omega),h2,h3.same (fun j hj=>⟨hj.1,Nat.lt_of_lt_of_le hj.2.1 hB.size,hj.2.2⟩) (fun j hj=>hB.block j hj.2.1 (by omega) (by omega))⟩,Nat.le_trans h.size hB.size,hlen⟩
theorem qfs.go' (h:qfs k W b s N wi p a V)(hb:b<W.heap.size)(hs:qad V' b {s with pos:=q,within:=wi' })(hB:But b V V')(hlen:a.2.length≤q∧a.1.length≤q):qfs k W b s N wi' q a V' :=
 h.step (ks:=a.1) hb hs (.of1 hB) (h.keys.but (by omega) hB) hlen
theorem qfs.go (h:qfs k W b s N wi p a V)(hb:b<W.heap.size)(hs:qad V' b {s with pos:=q,within:=wi' })(hB:But b V V')(hpq:p≤q):qfs k W b s N wi' q a V' :=
 h.go' hb hs hB ⟨by have:=h.len.1;omega,by have:=h.len.2;omega⟩
theorem qfs.push {es:List (Lit×DataW Unit)}{key:List UInt8}{a:Option Addr}(h:qfs k W b s N wi p (ks,es) V)(h0:qad W b s)(hb:b<W.heap.size)(hB:But b V V3)(hS:qad V3 b {s with pos:=q,within:=wi})(hd:qai k V3 (fun j=>V.heap.size≤j∧j<V3.heap.size) x d)(hL:V.heap[W.heap.size+1]? = some (.cells #[.slice a l c] 206))(ho:V.ownsRow (W.heap.size+4) 208 2 (.slice a l c) es.length xs)(hne:some N≠(Value.slice a l c).ownBlock)(hxs:qcq k V (fun j=>W.heap.size+4≤j∧j<V.heap.size∧some j≠(Value.slice a l c).ownBlock) xs es)(ho':w5.ownsRow (W.heap.size+4) 208 2 v' (es.length+1) (xs++[.string ⟨key.toArray⟩,x]))(hg:(V3.alloc (.cells #[.string ⟨key.toArray⟩,x] 208)).grownBy w5 (Value.slice a l c).ownBlock)(hw:v'.ownBlock=(Value.slice a l c).ownBlock∨v'.ownBlock=some (V3.alloc (.cells #[.string ⟨key.toArray⟩,x] 208)).heap.size)(hlen:es.length+1≤q)(hlen2:ks.length≤q):qfs k W b s N wi q (ks,es++[(.string key,d)]) (w5.setCell ⟨W.heap.size+1,0,none⟩ v'):=by
 have hsz:=h.size;have hN:=h.hN;have hNlt:=ltA h.box;have hB3:=hB.size;have hgs:V3.heap.size+1≤w5.heap.size:=by have:=hg.size;simpa using this
 have hky:∀g,(Value.slice a l c).ownBlock=some g→W.heap.size+4≤g:=fun g hg=>qbA ho hg;have klt:∀g,(Value.slice a l c).ownBlock=some g→g<V.heap.size:=qhh ho;have hkeep:∀j,j<V3.heap.size→some j≠(Value.slice a l c).ownBlock→j≠W.heap.size+1→(w5.setCell ⟨W.heap.size+1,0,none⟩ v').heap[j]? = V3.heap[j]?:=fun j hj hn hl=>(heap_setCell_other w5 _ _ _ (by simpa using hl)).trans ((hg.block j (by simp;omega) hn).trans (Below.heap_alloc _ _ _ hj));have hlow:∀j,j<W.heap.size+4→j≠W.heap.size+1→(w5.setCell ⟨W.heap.size+1,0,none⟩ v').heap[j]? = V3.heap[j]?:=fun j hj hl=>hkeep j (by omega) (fun e=>by have:=hky j e.symm;omega) hl;have hL5:w5.heap[W.heap.size+1]? = some (.cells #[.slice a l c] 206):=(hg.block _ (by simp;omega) (fun e=>by have:=hky _ e.symm;omega)).trans ((Below.heap_alloc _ _ _ (by omega)).trans ((hB.block _ (ltA hL) (by omega)).trans hL));have hsz2:(w5.setCell ⟨W.heap.size+1,0,none⟩ v').heap.size=w5.heap.size:=by simp[World.setCell]
 have hkeys:qaE (w5.setCell ⟨W.heap.size+1,0,none⟩ v') (W.heap.size+2) ks:=by
  have h1:qaE V3 (W.heap.size+2) ks:=h.keys.but (by omega) hB;have h2:qaE (V3.alloc (.cells #[.string ⟨key.toArray⟩,x] 208)) (W.heap.size+2) ks:=h1.but (b:=W.heap.size+1) (by omega) (But.of_below bwA);have h3:qaE w5 (W.heap.size+2) ks:=h2.kept hg (fun e=>by have:=hky _ e.symm;omega);exact h3.but (b:=W.heap.size+1) (by omega) ⟨rfl,rfl,rfl,by simp[World.setCell],fun j _ hj=>heap_setCell_other w5 _ _ _ (by simpa using hj)⟩
 obtain⟨g5,cap5,rfl⟩:=ownsRow_succ ho';have ho5:(w5.setCell ⟨W.heap.size+1,0,none⟩ (.slice (some ⟨g5,0,none⟩) (es.length+1) cap5)).ownsRow (W.heap.size+4) 208 2 (.slice (some ⟨g5,0,none⟩) (es.length+1) cap5) (es.length+1) (xs++[.string ⟨key.toArray⟩,x]):=by
  refine⟨ho'.1,?_⟩;rcases ho'.2 with h2|⟨g,cap,cur,e,hbb,hgg,h5⟩
  ·exact .inl h2
  exact .inr ⟨g,cap,cur,e,hbb,(heap_setCell_other w5 _ _ _ (by simp;omega)).trans hgg,h5⟩
 have hne5:∀j,j<V3.heap.size→some j≠(Value.slice a l c).ownBlock→some j≠(Value.slice (some ⟨g5,0,none⟩) (es.length+1) cap5).ownBlock:=fun j hj hn=>by
  rcases hw with hw|hw
  ·rw[hw];exact hn
  rw[hw];intro e;injection e with e;simp at e;omega
 refine⟨h0.same rfl rfl hS (fun j hj=>hlow j (by omega) (by omega)),⟨hg.os.trans (hB.os.trans h.but.os),hg.tape.trans (hB.tape.trans h.but.tape),hg.output.trans (hB.output.trans h.but.output),by rw[hsz2];have:=h.but.size;omega,fun j hj hn=>(hlow j (by omega) (by omega)).trans ((hB.block j (by omega) hn).trans (h.but.block j hj hn))⟩,(hlow _ (by omega) (by omega)).trans ((hB.block _ (by omega) (by omega)).trans h.rbox),(hlow _ (by omega) (by omega)).trans ((hB.block _ (by omega) (by omega)).trans h.kbox),hkeys,(hkeep N (by omega) hne (by omega)).trans ((hB.block N hNlt (by omega)).trans h.box),h.hN,⟨_,_,_,_,?_,by rw[List.length_append];exact ho5,?_,fun i y dd hc => ?_⟩,by rw[hsz2];omega,⟨by rw[List.length_append];exact hlen,hlen2⟩⟩
 ·rw[heap_setCell_same _ _ _ _ _ _ hL5];rfl
 ·exact hne5 N (by omega) hne
 have hxl:xs.length=es.length*2:=ho.1;by_cases hi:i<es.length
 ·rw[List.getElem?_append_left hi] at hc;obtain⟨l',x',e1,e2,e3,e4⟩:=hxs i y dd hc;refine⟨l',x',e1,by rw[List.getElem?_append_left (by omega)];exact e2,by rw[List.getElem?_append_left (by omega)];exact e3,?_⟩;exact e4.same (fun j hj=>⟨hj.1,by rw[hsz2];have:=hj.2.1;omega,hne5 j (by omega) hj.2.2⟩) (fun j hj=>(hkeep j (by omega) hj.2.2 (by omega)).trans (hB.block j hj.2.1 (by omega)))
 have e:i=es.length:=by
  have:=ltL hc;rw[List.length_append] at this;simp at this;omega
 subst e;rw[List.getElem?_append_right (by omega)] at hc;simp at hc;obtain⟨rfl,rfl⟩:=hc;have hoff:∀j,V.heap.size≤j→some j≠(Value.slice a l c).ownBlock:=fun j hj e=>by have:=klt j e.symm;omega
 refine⟨key,x,rfl,?_,?_,hd.same (fun j hj=>⟨by omega,by rw[hsz2];omega,hne5 j hj.2 (hoff j hj.1)⟩) (fun j hj=>hkeep j hj.2 (hoff j hj.1) (by omega))⟩
 ·rw[List.getElem?_append_right (by omega),show 2*es.length-xs.length=0 by omega];rfl
 rw[List.getElem?_append_right (by omega),show 2*es.length+1-xs.length=1 by omega];rfl
theorem qra (k:Nat)(W:World)(b:Nat)(s:Src)(wi:Nat)(rd:Nat→Except (Int×Int) (DataW Unit×Nat))(h0:qad W b s)(hrd:qgg k b {s with within:=wi} W rd)(hgo:∀p d q,rd p=.ok (d,q)→p<q)(hlen:s.bs.length≤200000000)(hU:∀V,But b W V→U8 V)(h7:7<b)(N p:Nat)(a:List (List UInt8)×List (Lit×DataW Unit))(V:World)(h:qfs k W b s N wi p a V):Calls prog 311 #[.pointer (some ⟨W.heap.size,0,none⟩),.pointer (some ⟨W.heap.size+3,0,none⟩),.pointer (some ⟨W.heap.size+1,0,none⟩)] V (qc9 (qfs k W b s N wi) (fun V=>But b W V) (enJ s.bs s.lim rd a p)):=by
 obtain⟨i0,hi,hz0,hz1,hz2⟩:=info_parts Tryz.infoEntry;have hbN:b<W.heap.size:=ltA h0.row;have hig:∀g off,s.bs≠[]→s.ia=some ⟨g,off,none⟩→g≠W.heap.size+2:=fun g off hne e=>by
  have hl:0<s.bs.length:=by cases hbs:s.bs with|nil=>exact absurd hbs hne|cons _ _=>simp
  obtain⟨g',off',e1,_,e3⟩:=h0.inp 0 hl;rw[e] at e1;injection e1 with e1;injection e1 with e1;have:g'<W.heap.size:=block_lt_of_cell e3;omega
 have H:Hid (qfs k W b s N wi p a V):=h;have cK:Calls prog 312 #[.agg #[.pointer (some ⟨b,0,none⟩)],.map (some (W.heap.size+2))] V (qjS V b (W.heap.size+2) {s with pos:=p,within:=wi} a.1 (qmo s.bs s.lim a.1 p)):=qjV V b (W.heap.size+2) {s with pos:=p,within:=wi} a.1 h.src h.keys (by omega) hig (by have h1:=h.len.2;have h2:p≤s.bs.length:=h.src.le;omega) hlen (fun V9 h9=>hU V9 (h.but.trans h9)) h7;have cS:∀(V:World) (p:Nat),qad V b {s with pos:=p,within:=wi}→Calls prog 297 #[.agg #[.pointer (some ⟨b,0,none⟩)]] V (qbJ V b {s with pos:=p,within:=wi} (fun _:Unit=>.tuple #[]) (spF s.bs s.lim (s.bs.length+1-p) p)):=fun V p hV=>qaN V b {s with pos:=p,within:=wi} hV;have cR:∀(V:World) (p:Nat),qad V b {s with pos:=p,within:=wi}→Calls prog 298 #[.agg #[.pointer (some ⟨b,0,none⟩)],.string ⟨#[58]⟩] V (qbJ V b {s with pos:=p,within:=wi} (fun _:Unit=>.tuple #[]) (qaT s.bs s.lim [58] p)):=fun V p hV=>qbv V b {s with pos:=p,within:=wi} [58] (by simp) hV;have cT0:∀(V9:World) (q:Nat),qad V9 b {s with pos:=q,within:=wi}→But b W V9→Calls prog 296 #[.agg #[.pointer (some ⟨b,0,none⟩)]] V9 (qc7 k V9 b {s with pos:=q,within:=wi} (rd q)):=fun V9 q h1 h2=>hrd V9 q h1 h2;have k1:=qab h.rbox 0;have k2:=qab h.kbox 0;clear h hrd hU hig;obtain⟨R,HR⟩:∃R,Hid (enJ s.bs s.lim rd a p=R):=⟨_,show _=_ from rfl⟩
 rw[HR.out];have hr:=HR.out;unfold enJ at hr;clear HR;go_enter func311,ntmps311
 go_wp2_with fail
 refine cK.mono ?_;clear cK;rintro e w1 ⟨hB1,hF1⟩
 cases h1:qmo s.bs s.lim a.1 p with
 |error er =>
  obtain⟨en,pl⟩:=er;simp only[h1] at hr hF1;subst hr;clear h1 cS cR cT0;obtain rfl:=(show qao en pl e from hF1)
  go_wp2;exact⟨rfl,rfl,H.out.but.trans' hB1⟩
 |ok lq =>
  obtain⟨key,q1⟩:=lq;have hq1:=qpR h1;simp only[h1] at hr hF1;clear h1;obtain⟨rfl,hS1,hK1⟩:=(show e=.returned (.string ⟨key.toArray⟩)∧qad w1 b {s with pos:=q1,within:=wi}∧qaE w1 (W.heap.size+2) (key::a.1) from hF1)
  have H1:Hid (qfs k W b s N wi q1 (key::a.1,a.2) w1):=H.out.step hbN hS1 hB1 hK1 ⟨by have:=H.out.len.1;omega,by have:=H.out.len.2;rw[List.length_cons];omega⟩;clear H hS1 hB1 hK1 hF1 k1 k2;have k1:=qab H1.out.rbox 0
  go_wp2_with fail
  refine(cS w1 q1 H1.out.src).mono ?_;rintro e w2 ⟨hB2,hF2⟩
  cases h2:spF s.bs s.lim (s.bs.length+1-q1) q1 with
  |error er =>
   obtain⟨en,pl⟩:=er;simp only[h2] at hr hF2;subst hr;clear h2;obtain rfl:=(show qao en pl e from hF2)
   go_wp2;exact⟨rfl,rfl,H1.out.but.trans hB2⟩
  |ok uq =>
   obtain⟨u2,q2⟩:=uq;have hq2:=qcm _ _ _ _ _ _ h2;simp only[h2] at hr hF2;clear h2;obtain⟨rfl,hS2⟩:=(show e=.returned (.tuple #[])∧qad w2 b {s with pos:=q2,within:=wi} from hF2)
   have H2:Hid (qfs k W b s N wi q2 (key::a.1,a.2) w2):=H1.out.go hbN hS2 hB2 hq2;clear H1 hS2 hB2 hF2 k1;have k1:=qab H2.out.rbox 0
   go_wp2_with fail
   refine(cR w2 q2 H2.out.src).mono ?_;rintro e w3 ⟨hB3,hF3⟩
   cases h3:qaT s.bs s.lim [58] q2 with
   |error er =>
    obtain⟨en,pl⟩:=er;simp only[h3] at hr hF3;subst hr;clear h3;obtain rfl:=(show qao en pl e from hF3)
    go_wp2;exact⟨rfl,rfl,H2.out.but.trans hB3⟩
   |ok uq =>
    obtain⟨u3,q3⟩:=uq;have hq3:q2≤q3:=by have:=qcb _ _ _ _ _ _ h3;omega
    simp only[h3] at hr hF3;clear h3;obtain⟨rfl,hS3⟩:=(show e=.returned (.tuple #[])∧qad w3 b {s with pos:=q3,within:=wi} from hF3)
    have H3:Hid (qfs k W b s N wi q3 (key::a.1,a.2) w3):=H2.out.go hbN hS3 hB3 hq3;clear H2 hS3 hB3 hF3 k1;have k1:=qab H3.out.rbox 0
    go_wp2_with fail
    refine(cS w3 q3 H3.out.src).mono ?_;rintro e V5 ⟨hB4,hF4⟩
    cases h4:spF s.bs s.lim (s.bs.length+1-q3) q3 with
    |error er =>
     obtain⟨en,pl⟩:=er;simp only[h4] at hr hF4;subst hr;clear h4;obtain rfl:=(show qao en pl e from hF4)
     go_wp2;exact⟨rfl,rfl,H3.out.but.trans hB4⟩
    |ok uq =>
     obtain⟨u4,q4⟩:=uq;have hq4:=qcm _ _ _ _ _ _ h4;simp only[h4] at hr hF4;clear h4;obtain⟨rfl,hS4⟩:=(show e=.returned (.tuple #[])∧qad V5 b {s with pos:=q4,within:=wi} from hF4)
     have H4:Hid (qfs k W b s N wi q4 (key::a.1,a.2) V5):=H3.out.go hbN hS4 hB4 hq4;clear H3 hS4 hB4 hF4 k1
     go_wp2_with fail
     have cT:=fun V9 (h1:qad V9 b {s with pos:=q4,within:=wi}) (h2:But b W V9)=>cT0 V9 q4 h1 h2;clear cT0;obtain⟨a0,l0,c0,xs,hL,ho,hne,hxs⟩:=H4.out.own;have ho:V5.ownsRow (W.heap.size+4) 208 2 (.slice a0 l0 c0) a.2.length xs:=ho;have hxs:qcq k V5 (fun j=>W.heap.size+4≤j∧j<V5.heap.size∧some j≠(Value.slice a0 l0 c0).ownBlock) xs a.2:=hxs;have hLlt:W.heap.size+1<(World.drew V5).heap.size:=ltA hL;have hSd:qad (World.drew V5) b {s with pos:=q4,within:=wi}:=H4.out.src.below (Below.refl _ _).drew;have hBd:But b W (World.drew V5):=H4.out.but.trans (But.of_below (Below.refl _ _).drew);have k0:(World.drew V5).cell? ⟨W.heap.size+1,0,none⟩=some (.slice a0 l0 c0):=qab hL 0;have k1:(World.drew V5).cell? ⟨W.heap.size,0,none⟩=some (.pointer (some ⟨b,0,none⟩)):=qab H4.out.rbox 0;have hsz:=H4.out.size;refine wp_region_any (by kernel_rfl) ?_;change wpAny _ _ _ _ _ _ _ (World.drew V5);refine wpAny_take (i:=1) (v:=.string ⟨key.toArray⟩) rfl (by kernel_rfl) (by kernel_rfl) (by kernel_rfl) (fun _ _ _ h=>h) (.inl ⟨rfl,fun V9=>rfl⟩) ?_
     cases h5:rd q4 with
     |error er =>
      obtain⟨en,pl⟩:=er;simp only[h5] at hr;subst hr;rw[h5] at cT;clear h5;refine rd2 0 2 rfl rfl (by kernel_rfl) (fun K hK => ?_) (fun K hK => ?_)
      ·go_simp;refine hK _ _ ?_;clear hK;refine rd1 2 rfl (by kernel_rfl) (fun K hK => ?_);go_simp;refine hK _ _ ?_;clear hK;refine rd1 3 rfl (by kernel_rfl) (fun K hK => ?_);go_simp;refine(cT _ hSd hBd).mono ?_;rintro e w3 ⟨hB3,hF3⟩;obtain rfl:=(show qao en pl e from hF3)
       exact⟨rfl,rfl,hBd.trans hB3⟩
      go_simp;refine hK _ _ ?_;clear hK;refine rd2 0 3 rfl rfl (by kernel_rfl) (fun K hK => ?_) (fun K hK => ?_)
      ·go_simp;refine hK _ _ ?_;clear hK;refine rd1 3 rfl (by kernel_rfl) (fun K hK => ?_);go_simp;refine(cT _ hSd hBd).mono ?_;rintro e w3 ⟨hB3,hF3⟩;obtain rfl:=(show qao en pl e from hF3)
       exact⟨rfl,rfl,hBd.trans hB3⟩
      go_simp;refine(cT _ hSd hBd).mono ?_;rintro e w3 ⟨hB3,hF3⟩;obtain rfl:=(show qao en pl e from hF3)
      exact⟨rfl,rfl,hBd.trans hB3⟩
     |ok dq =>
      obtain⟨d,q5⟩:=dq;have hq5:=hgo q4 d q5 h5;simp only[h5] at hr;subst hr;rw[h5] at cT;clear h5;have hal:a.2.length≤200000000:=by have h1:a.2.length≤q4:=H4.out.len.1;have h2:q4≤s.bs.length:=H4.out.src.le;omega
      refine qoU (β:=TypeId×Value×World) #[true,true,true,true,true,true,false,false] 2 (fun x=>[(13,.slice a0 l0 c0),(15,.agg #[.pointer (some ⟨b,0,none⟩)]),(16,.iface x.1 x.2.1),(17,.agg #[.string ⟨key.toArray⟩,.iface x.1 x.2.1]),(18,.slice (some ⟨x.2.2.heap.size,0,none⟩) 1 1)]) (fun x=>But b (World.drew V5) x.2.2∧qad x.2.2 b {s with pos:=q5,within:=wi}∧qai k x.2.2 (fun j=>(World.drew V5).heap.size≤j∧j<x.2.2.heap.size) (.iface x.1 x.2.1) d) (fun x=>x.2.2.alloc (.cells #[.string ⟨key.toArray⟩,.iface x.1 x.2.1] 208)) (fun hvia => ?reg) ?tail
      case reg =>
       refine rd2 0 2 rfl rfl (by kernel_rfl) (fun K hK => ?_) (fun K hK => ?_)
       ·go_simp;refine hK _ _ ?_;clear hK;refine rd1 2 rfl (by kernel_rfl) (fun K hK => ?_);go_simp;refine hK _ _ ?_;clear hK;refine rd1 3 rfl (by kernel_rfl) (fun K hK => ?_);go_simp;refine(cT _ hSd hBd).mono ?_;rintro e w3 ⟨hB3,hF3⟩;obtain⟨⟨t,y,rfl,hd3⟩,hS3⟩:=(show(∃t y,e=.returned (.iface t y)∧qai k w3 (fun j=>(World.drew V5).heap.size≤j∧j<w3.heap.size) (.iface t y) d)∧qad w3 b {s with pos:=q5,within:=wi} from hF3)
        simp only[];have c3:w3.cell? ⟨W.heap.size+1,0,none⟩=some (.slice a0 l0 c0):=qab ((hB3.block _ hLlt (by omega)).trans hL) 0;have hrel:But b (World.drew V5) w3∧qad w3 b {s with pos:=q5,within:=wi}∧qai k w3 (fun j=>(World.drew V5).heap.size≤j∧j<w3.heap.size) (.iface t y) d:=⟨hB3,hS3,hd3⟩
        refine hK _ _ ?_;clear hK;refine rd1 4 rfl (by kernel_rfl) (fun K hK => ?_);go_simp;refine hK _ _ ?_;clear hK;refine rd1 5 rfl (by kernel_rfl) (fun K hK => ?_);go_simp;refine hK _ _ ?_;clear hK;exact hvia ⟨t,y,w3⟩ hrel
       go_simp;refine hK _ _ ?_;clear hK;refine rd2 0 3 rfl rfl (by kernel_rfl) (fun K hK => ?_) (fun K hK => ?_)
       ·go_simp;refine hK _ _ ?_;clear hK;refine rd1 3 rfl (by kernel_rfl) (fun K hK => ?_);go_simp;refine(cT _ hSd hBd).mono ?_;rintro e w3 ⟨hB3,hF3⟩;obtain⟨⟨t,y,rfl,hd3⟩,hS3⟩:=(show(∃t y,e=.returned (.iface t y)∧qai k w3 (fun j=>(World.drew V5).heap.size≤j∧j<w3.heap.size) (.iface t y) d)∧qad w3 b {s with pos:=q5,within:=wi} from hF3)
        simp only[];have c3:w3.cell? ⟨W.heap.size+1,0,none⟩=some (.slice a0 l0 c0):=qab ((hB3.block _ hLlt (by omega)).trans hL) 0;have hrel:But b (World.drew V5) w3∧qad w3 b {s with pos:=q5,within:=wi}∧qai k w3 (fun j=>(World.drew V5).heap.size≤j∧j<w3.heap.size) (.iface t y) d:=⟨hB3,hS3,hd3⟩
        refine hK _ _ ?_;clear hK;refine rd1 4 rfl (by kernel_rfl) (fun K hK => ?_);go_simp;refine hK _ _ ?_;clear hK;refine rd1 5 rfl (by kernel_rfl) (fun K hK => ?_);go_simp;refine hK _ _ ?_;clear hK;exact hvia ⟨t,y,w3⟩ hrel
       go_simp;refine(cT _ hSd hBd).mono ?_;rintro e w3 ⟨hB3,hF3⟩;obtain⟨⟨t,y,rfl,hd3⟩,hS3⟩:=(show(∃t y,e=.returned (.iface t y)∧qai k w3 (fun j=>(World.drew V5).heap.size≤j∧j<w3.heap.size) (.iface t y) d)∧qad w3 b {s with pos:=q5,within:=wi} from hF3)
       simp only[];have c3:w3.cell? ⟨W.heap.size+1,0,none⟩=some (.slice a0 l0 c0):=qab ((hB3.block _ hLlt (by omega)).trans hL) 0;have hrel:But b (World.drew V5) w3∧qad w3 b {s with pos:=q5,within:=wi}∧qai k w3 (fun j=>(World.drew V5).heap.size≤j∧j<w3.heap.size) (.iface t y) d:=⟨hB3,hS3,hd3⟩
       refine hK _ _ ?_;clear hK;refine rd2 0 4 rfl rfl (by kernel_rfl) (fun K hK => ?_) (fun K hK => ?_)
       ·go_simp;refine hK _ _ ?_;clear hK;refine rd1 4 rfl (by kernel_rfl) (fun K hK => ?_);go_simp;refine hK _ _ ?_;clear hK;refine rd1 5 rfl (by kernel_rfl) (fun K hK => ?_);go_simp;refine hK _ _ ?_;clear hK;exact hvia ⟨t,y,w3⟩ hrel
       go_simp;refine hK _ _ ?_;clear hK;refine rd2 0 5 rfl rfl (by kernel_rfl) (fun K hK => ?_) (fun K hK => ?_)
       ·go_simp;refine hK _ _ ?_;clear hK;refine rd1 5 rfl (by kernel_rfl) (fun K hK => ?_);go_simp;refine hK _ _ ?_;clear hK;exact hvia ⟨t,y,w3⟩ hrel
       go_simp;refine hK _ _ ?_;clear hK;refine rd1 0 rfl (by kernel_rfl) (fun K hK => ?_);have c4:(w3.alloc (.cells #[.string ⟨key.toArray⟩,.iface t y] 208)).cell? ⟨W.heap.size+1,0,none⟩=some (.slice a0 l0 c0):=(World.cell?_alloc_some w3 _ _ (by rw[c3];rfl)).trans c3;go_simp;refine hK _ _ ?_;clear hK;exact hvia ⟨t,y,w3⟩ hrel
      case tail =>
       rintro⟨t,y,w3⟩ ⟨hB3,hS3,hd3⟩;simp only[] at hB3 hS3 hd3 ⊢;have hB3':But b V5 w3:=(But.of_below (Below.refl _ _).drew).trans hB3;have hO3:w3.ownsRow (W.heap.size+4) 208 2 (.slice a0 l0 c0) a.2.length xs:=qcM ho hB3' (by omega);have hw3:W.heap.size+4≤w3.heap.size:=Nat.le_trans hsz hB3'.size;simp only[List.foldl];refine rd1 6 rfl (by kernel_rfl) (fun K hK => ?_);rw[if_pos (by rfl)];refine qcY _ _ 206 rfl (W.heap.size+4) 208 i0 (.agg #[.string ByteArray.empty,.nilIface]) 2 32 underlying206 hi hz0 hz1 hz2 rfl (by decide) _ _ _ rfl (hO3.alloc _) ⟨w3.heap.size,0,none⟩ 1 1 [.string ⟨key.toArray⟩,.iface t y] rfl rfl (qag _ _ _) (fun u hu=>by simp at hu;rcases hu with rfl|rfl<;>rfl) (by decide) (by unfold maxLen;omega) (by omega) (by simp;omega) ?_;intro v' w5 hown' hgrow5 hw5;have hJ:qfs k W b s N wi q5 (key::a.1,a.2++[(.string key,d)]) (w5.setCell ⟨W.heap.size+1,0,none⟩ v'):=H4.out.push h0 hbN hB3' hS3 hd3 hL ho hne hxs hown' hgrow5 hw5 (by have h1:a.2.length≤q4:=H4.out.len.1;omega) (by have h1:(key::a.1).length≤q4:=H4.out.len.2;omega);have hL5:w5.heap[W.heap.size+1]? = some (.cells #[.slice a0 l0 c0] 206):=(hgrow5.block _ (by simp;omega) (fun e=>by have:=qbA ho e.symm;omega)).trans ((Below.heap_alloc _ _ _ (by omega)).trans ((hB3'.block _ (ltA hL) (by omega)).trans hL));have c5:w5.cell? ⟨W.heap.size+1,0,none⟩=some (.slice a0 l0 c0):=qab hL5 0;have f5:w5.frozen? ⟨W.heap.size+1,0,none⟩=false:=frozen_of_row w5 _ 0 _ _ hL5;obtain⟨g5,cap5,rfl⟩:=ownsRow_succ hown';refine hK _ _ ?_;clear hK;refine rd1 7 rfl (by kernel_rfl) (fun K hK => ?_);go_simp;refine hK _ _ ?_;clear hK;refine wpAny_done (by kernel_rfl) ?_ _;go_end0;exact⟨rfl,hJ⟩
end
end Go.Proofs.YtllcbnfmihfaaaaGreatDoor
