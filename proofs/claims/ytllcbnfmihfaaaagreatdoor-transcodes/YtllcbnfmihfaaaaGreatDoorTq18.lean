import Derived.Test.YtllcbnfmihfaaaaGreatDoorTq17
set_option maxRecDepth 100000
set_option maxHeartbeats 8000000
namespace Go.Proofs.YtllcbnfmihfaaaaGreatDoor
open Go.Proofs.Tryz
variable {P:Program}{Q:Exit→Act→World→Prop}{N b k p q wi:Nat}{a:Act}{V W w:World}{s:Src}{ds:List (DataW Unit)}
section
open Go.RowKit
theorem qoU {β:Type}{md:Region.Mode}{ops:Array Oper}{fuel:Nat}{listed:Array Bool}(L:Array Bool)(fu:Nat)(vs:β→List (Nat×Value))(T:β→Prop)(wd:β→World)(hr:(∀x,T x→wpAny P md ops Q fu L ((vs x).foldl (fun a p=>a.put (some p.1) p.2) a) (wd x))→wpAny P md ops Q fuel listed a w)(ht:∀x,T x→wpAny P md ops Q fu L ((vs x).foldl (fun a p=>a.put (some p.1) p.2) a) (wd x)):wpAny P md ops Q fuel listed a w:=hr ht
theorem qcY {o:Oper}{K:Act→World→Prop}(s x:Operand)(t:TypeId)(ho:o.op=.call {callee:=.builtin .append,args:=#[s,x],argTypes:=#[t,t]})(base:Nat)(e:TypeId)(i:TypeInfo)(z:Value)(size bytes:Nat)(ht:P.underlying t=some (.slice e))(hi:P.info? e=some i)(hz:i.zero=some z)(hsize:i.size=size)(hby:i.bytes=bytes)(hzs:z.cells.size=size)(hsz:0<size)(v:Value)(n:Nat)(xs:List Value)(hs:a.eval s=v)(hown:w.ownsRow base e size v n xs)(ad:Addr)(m c:Nat)(news:List Value)(hx:a.eval x=.slice (some ad) m c)(hl:news.length=m*size)(hnews:∀j u,news[j]? = some u→w.cell? (ad.add j)=some u)(h1:∀u∈news,u.oneCell'=true)(hm:0<m)(h63:n+m≤maxLen)(hbytes:(n+m)*bytes≤140737488355328)(hbase:base≤w.heap.size)(h:∀v' w',w'.ownsRow base e size v' (n+m) (xs++news)→w.grownBy w' v.ownBlock→(v'.ownBlock=v.ownBlock∨v'.ownBlock=some w.heap.size)→K (a.put o.dst v') w'):o.wp P a w K Q:=by
 obtain⟨v',w',hr,h2,h3,_⟩:=run_append_own (P:=P) w base t o.type e i z size bytes ht hi hz hsize hby hzs hsz v n xs hown ad m c news hl hnews h1 h63 hbytes hbase;have h4:=qcS (P:=P) w base t o.type e i z size bytes ht hi hz hsize hby v n xs hown ad m c news hl hnews h1 hm h63 hbytes hr;unfold Oper.wp execOp;simp only[ho,resolve,invoke,builtin,Sem.run_bind,Sem.run_pure,Result.andThen_ok,List.map_toArray,List.map_cons,List.map_nil,hs,hx,hr];exact h v' w' h2 h3 h4
structure qnp (k:Nat)(W:World)(b:Nat)(s:Src)(N wi p:Nat)(ds:List (DataW Unit))(V:World):Prop where
 src:qad V b {s with pos:=p,within:=wi}
 but:But b W V
 rbox:V.heap[W.heap.size]? = some (.cells #[.pointer (some ⟨b,0,none⟩)] 198)
 box:V.heap[N]? = some (.cells #[.pointer (some ⟨b,0,none⟩)] 198)
 hN:W.heap.size+2≤N
 own:∃a l c xs,V.heap[W.heap.size+1]? = some (.cells #[.slice a l c] 204)∧V.ownsRow (W.heap.size+2) 81 1 (.slice a l c) ds.length xs∧some N≠(Value.slice a l c).ownBlock∧∀(i:Nat) (x:Value) (d:DataW Unit),xs[i]? = some x→ds[i]? = some d→qai k V (fun j=>W.heap.size+2≤j∧j<V.heap.size∧some j≠(Value.slice a l c).ownBlock) x d
 size:W.heap.size+2≤V.heap.size
 len:ds.length≤p
theorem qnp.step {V':World}{wi':Nat}(h:qnp k W b s N wi p ds V)(hb:b<W.heap.size)(hs:qad V' b {s with pos:=q,within:=wi' })(hB:But b V V')(hpq:ds.length≤q):qnp k W b s N wi' q ds V':=by
 obtain⟨a,l,c,xs,h0,h1,h2,h3⟩:=h.own;have hsz:=h.size;have hN:=h.hN;exact⟨hs,h.but.trans hB,(hB.block _ (ltA h.rbox) (by omega)).trans h.rbox,(hB.block _ (ltA h.box) (by omega)).trans h.box,h.hN,⟨a,l,c,xs,(hB.block _ (ltA h0) (by omega)).trans h0,qcM h1 hB (by omega),h2,fun i x d hx hd=>(h3 i x d hx hd).same (fun j hj=>⟨hj.1,Nat.lt_of_lt_of_le hj.2.1 hB.size,hj.2.2⟩) (fun j hj=>hB.block j hj.2.1 (by omega))⟩,Nat.le_trans h.size hB.size,hpq⟩
theorem qnp.push {V3 w5:World}{d:DataW Unit}{a:Option Addr}{l c:Nat}{v' x:Value}{xs:List Value}(h:qnp k W b s N wi p ds V)(h0:qad W b s)(hb:b<W.heap.size)(hB:But b V V3)(hS:qad V3 b {s with pos:=q,within:=wi})(hd:qai k V3 (fun j=>V.heap.size≤j∧j<V3.heap.size) x d)(hL:V.heap[W.heap.size+1]? = some (.cells #[.slice a l c] 204))(ho:V.ownsRow (W.heap.size+2) 81 1 (.slice a l c) ds.length xs)(hne:some N≠(Value.slice a l c).ownBlock)(hxs:∀(i:Nat) (x:Value) (d:DataW Unit),xs[i]? = some x→ds[i]? = some d→qai k V (fun j=>W.heap.size+2≤j∧j<V.heap.size∧some j≠(Value.slice a l c).ownBlock) x d)(ho':w5.ownsRow (W.heap.size+2) 81 1 v' (ds.length+1) (xs++[x]))(hg:(V3.alloc (.cells #[x] 81)).grownBy w5 (Value.slice a l c).ownBlock)(hw:v'.ownBlock=(Value.slice a l c).ownBlock∨v'.ownBlock=some (V3.alloc (.cells #[x] 81)).heap.size)(hlen:ds.length+1≤q):qnp k W b s N wi q (ds++[d]) (w5.setCell ⟨W.heap.size+1,0,none⟩ v'):=by
 have hsz:=h.size;have hN:=h.hN;have hNlt:=ltA h.box;have hB3:=hB.size;have hgs:V3.heap.size+1≤w5.heap.size:=by have:=hg.size;simpa using this
 have key:∀g,(Value.slice a l c).ownBlock=some g→W.heap.size+2≤g:=fun g hg=>qbA ho hg;have klt:=qhh ho;have hkeep:∀j,j<V3.heap.size→some j≠(Value.slice a l c).ownBlock→j≠W.heap.size+1→(w5.setCell ⟨W.heap.size+1,0,none⟩ v').heap[j]? = V3.heap[j]?:=fun j hj hn hl=>(heap_setCell_other w5 _ _ _ (by simpa using hl)).trans ((hg.block j (by simp;omega) hn).trans (Below.heap_alloc _ _ _ hj));have hlow:∀j,j<W.heap.size+1→(w5.setCell ⟨W.heap.size+1,0,none⟩ v').heap[j]? = V3.heap[j]?:=fun j hj=>hkeep j (by omega) (fun e=>by have:=key j e.symm;omega) (by omega);have hL5:=(hg.block _ (by simp;omega) (fun e=>by have:=key _ e.symm;omega)).trans ((Below.heap_alloc _ _ _ (by omega)).trans ((hB.block _ (ltA hL) (by omega)).trans hL));have hsz2:(w5.setCell ⟨W.heap.size+1,0,none⟩ v').heap.size=w5.heap.size:=by simp[World.setCell]
 obtain⟨g5,cap5,rfl⟩:=ownsRow_succ ho';have ho5:(w5.setCell ⟨W.heap.size+1,0,none⟩ (.slice (some ⟨g5,0,none⟩) (ds.length+1) cap5)).ownsRow (W.heap.size+2) 81 1 (.slice (some ⟨g5,0,none⟩) (ds.length+1) cap5) (ds.length+1) (xs++[x]):=by
  refine⟨ho'.1,?_⟩;rcases ho'.2 with h2|⟨g,cap,cur,e,hbb,hgg,h5⟩
  ·exact .inl h2
  exact .inr ⟨g,cap,cur,e,hbb,(heap_setCell_other w5 _ _ _ (by simp;omega)).trans hgg,h5⟩
 have hne5:∀j,j<V3.heap.size→some j≠(Value.slice a l c).ownBlock→some j≠(Value.slice (some ⟨g5,0,none⟩) (ds.length+1) cap5).ownBlock:=fun j hj hn=>by
  rcases hw with hw|hw
  ·rw[hw];exact hn
  rw[hw];intro e;injection e with e;simp at e;omega
 refine⟨h0.same rfl rfl hS (fun j hj=>hlow j (by omega)),⟨hg.os.trans (hB.os.trans h.but.os),hg.tape.trans (hB.tape.trans h.but.tape),hg.output.trans (hB.output.trans h.but.output),by rw[hsz2];have:=h.but.size;omega,fun j hj hn=>(hlow j (by omega)).trans ((hB.block j (by omega) hn).trans (h.but.block j hj hn))⟩,(hlow _ (by omega)).trans ((hB.block _ (by omega) (by omega)).trans h.rbox),(hkeep N (by omega) hne (by omega)).trans ((hB.block N hNlt (by omega)).trans h.box),h.hN,⟨_,_,_,_,?_,by rw[List.length_append];exact ho5,?_,fun i y dd hy hc => ?_⟩,by rw[hsz2];omega,by rw[List.length_append];exact hlen⟩
 ·rw[heap_setCell_same _ _ _ _ _ _ hL5];rfl
 ·exact hne5 N (by omega) hne
 have hxl:xs.length=ds.length:=by have:=ho.1;omega
 by_cases hi:i<ds.length
 ·rw[List.getElem?_append_left (by omega)] at hy hc;exact(hxs i y dd hy hc).same (fun j hj=>⟨hj.1,by rw[hsz2];have:=hj.2.1;omega,hne5 j (by omega) hj.2.2⟩) (fun j hj=>(hkeep j (by omega) hj.2.2 (by omega)).trans (hB.block j hj.2.1 (by omega)))
 have e:i=ds.length:=by
  have:=ltL hc;rw[List.length_append] at this;simp at this;omega
 subst e;rw[List.getElem?_append_right (by omega)] at hc;rw[List.getElem?_append_right (by omega),hxl] at hy;simp at hy hc;subst hy;subst hc;have hoff:∀j,V.heap.size≤j→some j≠(Value.slice a l c).ownBlock:=fun j hj e=>by have:=klt j e.symm;omega
 exact hd.same (fun j hj=>⟨by omega,by rw[hsz2];omega,hne5 j hj.2 (hoff j hj.1)⟩) (fun j hj=>hkeep j hj.2 (hoff j hj.1) (by omega))
theorem qqb (k:Nat)(W:World)(b:Nat)(s:Src)(wi:Nat)(rd:Nat→Except (Int×Int) (DataW Unit×Nat))(h0:qad W b s)(hrd:qgg k b {s with within:=wi} W rd)(hgo:∀p d q,rd p=.ok (d,q)→p<q)(hlen:s.bs.length≤200000000)(N p:Nat)(ds:List (DataW Unit))(V:World)(h:qnp k W b s N wi p ds V):Calls prog 310 #[.pointer (some ⟨W.heap.size+1,0,none⟩),.pointer (some ⟨W.heap.size,0,none⟩)] V (qc9 (qnp k W b s N wi) (fun V=>But b W V) (liJ rd ds p)):=by
 obtain⟨i0,hi,hz0,hz1,hz2⟩:=info_parts Tryz.infoThing;have hbN:=ltA h0.row;obtain⟨a0,l0,c0,xs,hL,ho,hne,hxs⟩:=h.own;have hLlt:W.heap.size+1<(World.drew V).heap.size:=ltA hL;have hal:ds.length≤200000000:=by have h1:=h.len;have h2:p≤s.bs.length:=h.src.le;omega
 have hSd:=h.src.below (Below.refl _ _).drew;have hBd:=h.but.trans (But.of_below (Below.refl _ _).drew);have k0:(World.drew V).cell? ⟨W.heap.size+1,0,none⟩=some (.slice a0 l0 c0):=qab hL 0;have k1:(World.drew V).cell? ⟨W.heap.size,0,none⟩=some (.pointer (some ⟨b,0,none⟩)):=qab h.rbox 0;have hsz:=h.size;have cT:∀V9,qad V9 b {s with pos:=p,within:=wi}→But b W V9→Calls prog 296 #[.agg #[.pointer (some ⟨b,0,none⟩)]] V9 (qc7 k V9 b {s with pos:=p,within:=wi} (rd p)):=fun V9 h1 h2=>hrd V9 p h1 h2
 cases hq:rd p with
 |error er =>
  obtain⟨en,pl⟩:=er;have hr:liJ rd ds p=.error (en,pl):=by unfold liJ;rw[hq]
  rw[hr];rw[hq] at cT;go_enter func310,ntmps310
  go_wp2_with fail
  refine wp_region_any (by kernel_rfl) ?_;change wpAny _ _ _ _ _ _ _ (World.drew V);refine rd2 0 1 rfl rfl (by kernel_rfl) (fun K hK => ?_) (fun K hK => ?_)
  ·go_simp;refine hK _ _ ?_;refine rd1 1 rfl (by kernel_rfl) (fun K hK => ?_);go_simp;refine hK _ _ ?_;refine rd1 2 rfl (by kernel_rfl) (fun K hK => ?_);go_simp;refine(cT _ hSd hBd).mono ?_;rintro e w3 ⟨hB3,hF3⟩;obtain rfl:=(show qao en pl e from hF3)
   exact⟨rfl,rfl,hBd.trans hB3⟩
  go_simp;refine hK _ _ ?_;refine rd2 0 2 rfl rfl (by kernel_rfl) (fun K hK => ?_) (fun K hK => ?_)
  ·go_simp;refine hK _ _ ?_;refine rd1 2 rfl (by kernel_rfl) (fun K hK => ?_);go_simp;refine(cT _ hSd hBd).mono ?_;rintro e w3 ⟨hB3,hF3⟩;obtain rfl:=(show qao en pl e from hF3)
   exact⟨rfl,rfl,hBd.trans hB3⟩
  go_simp;refine(cT _ hSd hBd).mono ?_;rintro e w3 ⟨hB3,hF3⟩;obtain rfl:=(show qao en pl e from hF3)
  exact⟨rfl,rfl,hBd.trans hB3⟩
 |ok dq =>
  obtain⟨d,q⟩:=dq;have hr:liJ rd ds p=.ok (ds++[d],q):=by unfold liJ;rw[hq]
  rw[hr];have hpq:=hgo p d q hq;rw[hq] at cT;go_enter func310,ntmps310
  go_wp2_with fail
  refine wp_region_any (by kernel_rfl) ?_;change wpAny _ _ _ _ _ _ _ (World.drew V);refine qoU (β:=TypeId×Value×World) #[true,true,true,true,false,false] 2 (fun x=>[(2,.slice a0 l0 c0),(3,.agg #[.pointer (some ⟨b,0,none⟩)]),(4,.iface x.1 x.2.1),(5,.slice (some ⟨x.2.2.heap.size,0,none⟩) 1 1)]) (fun x=>But b (World.drew V) x.2.2∧qad x.2.2 b {s with pos:=q,within:=wi}∧qai k x.2.2 (fun j=>(World.drew V).heap.size≤j∧j<x.2.2.heap.size) (.iface x.1 x.2.1) d) (fun x=>x.2.2.alloc (.cells #[.iface x.1 x.2.1] 81)) (fun hvia => ?reg) ?tail
  case reg =>
   refine rd2 0 1 rfl rfl (by kernel_rfl) (fun K hK => ?_) (fun K hK => ?_)
   ·go_simp;refine hK _ _ ?_;refine rd1 1 rfl (by kernel_rfl) (fun K hK => ?_);go_simp;refine hK _ _ ?_;refine rd1 2 rfl (by kernel_rfl) (fun K hK => ?_);go_simp;refine(cT _ hSd hBd).mono ?_;rintro e w3 ⟨hB3,hF3⟩;obtain⟨⟨t,y,rfl,hd3⟩,hS3⟩:=(show(∃t y,e=.returned (.iface t y)∧qai k w3 (fun j=>(World.drew V).heap.size≤j∧j<w3.heap.size) (.iface t y) d)∧qad w3 b {s with pos:=q,within:=wi} from hF3)
    simp only[];have c3:w3.cell? ⟨W.heap.size+1,0,none⟩=some (.slice a0 l0 c0):=qab ((hB3.block _ hLlt (by omega)).trans hL) 0;have hrel:But b (World.drew V) w3∧qad w3 b {s with pos:=q,within:=wi}∧qai k w3 (fun j=>(World.drew V).heap.size≤j∧j<w3.heap.size) (.iface t y) d:=⟨hB3,hS3,hd3⟩
    refine hK _ _ ?_;refine rd1 3 rfl (by kernel_rfl) (fun K hK => ?_);go_simp;refine hK _ _ ?_;exact hvia ⟨t,y,w3⟩ hrel
   go_simp;refine hK _ _ ?_;refine rd2 0 2 rfl rfl (by kernel_rfl) (fun K hK => ?_) (fun K hK => ?_)
   ·go_simp;refine hK _ _ ?_;refine rd1 2 rfl (by kernel_rfl) (fun K hK => ?_);go_simp;refine(cT _ hSd hBd).mono ?_;rintro e w3 ⟨hB3,hF3⟩;obtain⟨⟨t,y,rfl,hd3⟩,hS3⟩:=(show(∃t y,e=.returned (.iface t y)∧qai k w3 (fun j=>(World.drew V).heap.size≤j∧j<w3.heap.size) (.iface t y) d)∧qad w3 b {s with pos:=q,within:=wi} from hF3)
    simp only[];have c3:w3.cell? ⟨W.heap.size+1,0,none⟩=some (.slice a0 l0 c0):=qab ((hB3.block _ hLlt (by omega)).trans hL) 0;have hrel:But b (World.drew V) w3∧qad w3 b {s with pos:=q,within:=wi}∧qai k w3 (fun j=>(World.drew V).heap.size≤j∧j<w3.heap.size) (.iface t y) d:=⟨hB3,hS3,hd3⟩
    refine hK _ _ ?_;refine rd1 3 rfl (by kernel_rfl) (fun K hK => ?_);go_simp;refine hK _ _ ?_;exact hvia ⟨t,y,w3⟩ hrel
   go_simp;refine(cT _ hSd hBd).mono ?_;rintro e w3 ⟨hB3,hF3⟩;obtain⟨⟨t,y,rfl,hd3⟩,hS3⟩:=(show(∃t y,e=.returned (.iface t y)∧qai k w3 (fun j=>(World.drew V).heap.size≤j∧j<w3.heap.size) (.iface t y) d)∧qad w3 b {s with pos:=q,within:=wi} from hF3)
   simp only[];have c3:w3.cell? ⟨W.heap.size+1,0,none⟩=some (.slice a0 l0 c0):=qab ((hB3.block _ hLlt (by omega)).trans hL) 0;have hrel:But b (World.drew V) w3∧qad w3 b {s with pos:=q,within:=wi}∧qai k w3 (fun j=>(World.drew V).heap.size≤j∧j<w3.heap.size) (.iface t y) d:=⟨hB3,hS3,hd3⟩
   refine hK _ _ ?_;refine rd2 0 3 rfl rfl (by kernel_rfl) (fun K hK => ?_) (fun K hK => ?_)
   ·go_simp;refine hK _ _ ?_;refine rd1 3 rfl (by kernel_rfl) (fun K hK => ?_);go_simp;refine hK _ _ ?_;exact hvia ⟨t,y,w3⟩ hrel
   go_simp;refine hK _ _ ?_;refine rd1 0 rfl (by kernel_rfl) (fun K hK => ?_);have c4:(w3.alloc (.cells #[.iface t y] 81)).cell? ⟨W.heap.size+1,0,none⟩=some (.slice a0 l0 c0):=(World.cell?_alloc_some w3 _ _ (by rw[c3];rfl)).trans c3;go_simp;refine hK _ _ ?_;exact hvia ⟨t,y,w3⟩ hrel
  case tail =>
   rintro⟨t,y,w3⟩ ⟨hB3,hS3,hd3⟩;simp only[] at hB3 hS3 hd3 ⊢;have hB3':=(But.of_below (Below.refl _ _).drew).trans hB3;have hO3:=qcM ho hB3' (by omega);have hw3:=Nat.le_trans hsz hB3'.size;simp only[List.foldl];refine rd1 4 rfl (by kernel_rfl) (fun K hK => ?_);rw[if_pos (by rfl)];refine qcY _ _ 204 rfl (W.heap.size+2) 81 i0 .nilIface 1 16 underlying204 hi hz0 hz1 hz2 rfl (by decide) _ _ _ rfl (hO3.alloc _) ⟨w3.heap.size,0,none⟩ 1 1 [.iface t y] rfl rfl (qag _ _ _) (fun u hu=>by simp at hu;subst hu;rfl) (by decide) (by unfold maxLen;omega) (by omega) (by simp;omega) ?_;intro v' w5 hown' hgrow5 hw5;have hJ:=h.push h0 hbN hB3' hS3 hd3 hL ho hne hxs hown' hgrow5 hw5 (by have:=h.len;omega);have hL5:=(hgrow5.block _ (by simp;omega) (fun e=>by have:=qbA ho e.symm;omega)).trans ((Below.heap_alloc _ _ _ (by omega)).trans ((hB3'.block _ (ltA hL) (by omega)).trans hL));have c5:w5.cell? ⟨W.heap.size+1,0,none⟩=some (.slice a0 l0 c0):=qab hL5 0;have f5:=frozen_of_row w5 _ 0 _ _ hL5;obtain⟨g5,cap5,rfl⟩:=ownsRow_succ hown';refine hK _ _ ?_;refine rd1 5 rfl (by kernel_rfl) (fun K hK => ?_);go_simp;refine hK _ _ ?_;refine wpAny_done (by kernel_rfl) ?_ _;go_end0;exact⟨rfl,hJ⟩
theorem qet (bs:List UInt8)(lim:Int):∀(g p wh:Nat) (acc l:List UInt8) (r:Nat),qfe bs lim g p acc wh=.ok (l,r)→p<r∧l.length+4*p≤acc.length+4*r
 |0,p,wh,acc,l,r,h=>by rw[qfe] at h;cases h
 |g+1,p,wh,acc,l,r,h=>by
  rw[qfe] at h;split at h
  ·cases h
  split at h
  ·cases h
  split at h
  ·injection h with h;injection h with h1 h2;subst h1;omega
  split at h
  ·split at h
   ·cases h
   next rr q hq =>
   have h1:=qet bs lim g q _ _ l r h;have h2:=(qjf hq).2;have h3:=(qcg rr).2;rw[List.length_append] at h1;omega
  split at h
  ·cases h
  split at h
  ·cases h
  have h1:=qet bs lim g (p+1) _ _ l r h;rw[List.length_append] at h1;simp at h1;omega
theorem qcb (bs:List UInt8)(lim:Int):∀(l:List UInt8) (p:Nat) (u:Unit) (q:Nat),qaT bs lim l p=.ok (u,q)→q=p+l.length
 |[],p,u,q,h=>by
  rw[qaT] at h;injection h with h;injection h with h1 h2;simp[h2]
 |x::xs,p,u,q,h=>by
  rw[qaT] at h;split at h
  ·cases h
  split at h
  ·cases h
  split at h
  ·have:=qcb bs lim xs (p+1) u q h;simp;omega
  cases h
theorem qpR {bs:List UInt8}{lim:Int}{ks:List (List UInt8)}{l:List UInt8}(h:qmo bs lim ks p=.ok (l,q)):p<q:=by
 unfold qmo at h;split at h
 ·cases h
 next u q1 h1 =>
 split at h
 ·cases h
 next l' r h2 =>
 split at h
 ·cases h
 injection h with h;injection h with h3 h4;have:=qcb _ _ _ _ _ _ h1;have:=qet _ _ _ _ _ _ _ _ h2;omega
def qjS (W:World)(b m:Nat)(s:Src)(ks:List (List UInt8))(r:Except (Int×Int) (List UInt8×Nat))(e:Ending)(W':World):Prop :=
 qiO b m W W'∧match r with
 |.ok (l,p)=>e=.returned (.string ⟨l.toArray⟩)∧qad W' b {s with pos:=p}∧qaE W' m (l::ks)
 |.error (en,pl)=>qao en pl e
theorem qjV (W:World)(b m:Nat)(s:Src)(ks:List (List UInt8))(h:qad W b s)(hk:qaE W m ks)(hmb:m≠b)(hig:∀g off,s.bs≠[]→s.ia=some ⟨g,off,none⟩→g≠m)(hkl:ks.length<1000000000)(hlen:s.bs.length≤200000000)(hU:∀V,But b W V→U8 V)(h7:7<b):Calls prog 312 #[.agg #[.pointer (some ⟨b,0,none⟩)],.map (some m)] W (qjS W b m s ks (qmo s.bs s.lim ks s.pos)):=by
 have HX:=qaa (qaR h);have cA:=qbv _ b s [34] (by simp) HX.out.src;have cX:∀(V:World) (p:Nat),qad V b {s with pos:=p}→But b W V→Calls prog 299 #[.agg #[.pointer (some ⟨b,0,none⟩)]] V (qbJ V b {s with pos:=p} (fun l:List UInt8=>.string ⟨l.toArray⟩) (qfe s.bs s.lim (s.bs.length+1-p) p [] 0)):=fun V p hV hB=>qeQ V b {s with pos:=p} hV (hU V hB) h7 hlen;have cR2:∀(V:World) (p:Nat),qad V b {s with pos:=p}→Calls prog 295 #[.pointer (some ⟨b,0,none⟩),.int .i64 12] V fun e W'=>qao 12 ((p:Int)-1) e∧W'=V:=fun V p hV=>qat V b {s with pos:=p} 12 hV;have HKS:Hid (∀V,But b W V→qaE V m ks):=fun V hV=>hk.but hmb hV;have HOFF:Hid (∀V V' p,qad V b {s with pos:=p}→But m V V'→qad V' b {s with pos:=p}):=fun V V' p hV hB=>hV.off hmb hig hB;obtain⟨R,HR⟩:∃R,Hid (qmo s.bs s.lim ks s.pos=R):=⟨_,show _=_ from rfl⟩
 rw[HR.out];have hr:=HR.out;unfold qmo at hr;have k0:=qab HX.out.box 0
 cases ha:qaT s.bs s.lim [34] s.pos with
 |error er =>
  rw[ha] at hr cA;simp only[] at hr;subst hr;obtain⟨en,pl⟩:=er;go_enter func312,ntmps312
  go_wp2_with (first
   |(go_at_call 298;refine cA.mono ?_;rintro e w2 ⟨hB2,hF2⟩;obtain rfl:=(show qao en pl e from hF2)))
  exact⟨rfl,.of1 (HX.out.but.trans hB2),rfl⟩
 |ok uq =>
  obtain⟨u,q⟩:=uq;rw[ha] at hr cA;simp only[] at hr;have cX1:=fun V9 (hs:qad V9 b {s with pos:=q}) (hb:But b W V9)=>cX V9 q hs hb
  cases hz:qfe s.bs s.lim (s.bs.length+1-q) q [] 0 with
  |error er =>
   rw[hz] at hr cX1;simp only[] at hr;subst hr;obtain⟨en,pl⟩:=er;go_enter func312,ntmps312
   go_wp2_with (first
    |(go_at_call 298;refine cA.mono ?_;rintro e w2 ⟨hB2,hF2⟩;obtain⟨rfl,hS2⟩:=(show e=.returned (.tuple #[])∧qad w2 b {s with pos:=q} from hF2);have HX2:=qaa (HX.out.step hS2 hB2);have k0:=qab HX2.out.box 0;have cX2:=cX1 w2 HX2.out.src HX2.out.but)
    |(go_at_call 299;refine cX2.mono ?_;rintro e w3 ⟨hB3,hF3⟩;obtain rfl:=(show qao en pl e from hF3)))
   exact⟨rfl,.of1 (HX2.out.but.trans hB3),rfl⟩
  |ok lr =>
   obtain⟨l,r⟩:=lr;rw[hz] at hr cX1;simp only[] at hr;have hll:=qet _ _ _ _ _ _ _ _ hz;simp only[List.length_nil,Nat.zero_add] at hll;by_cases hin:l∈ks
   ·rw[if_pos hin] at hr;subst hr;have HIN:=qaa hin;go_enter func312,ntmps312
    go_wp2_with (first
     |(go_at_call 298;refine cA.mono ?_;rintro e w2 ⟨hB2,hF2⟩;obtain⟨rfl,hS2⟩:=(show e=.returned (.tuple #[])∧qad w2 b {s with pos:=q} from hF2);have HX2:=qaa (HX.out.step hS2 hB2);have k0:=qab HX2.out.box 0;have cX2:=cX1 w2 HX2.out.src HX2.out.but)
     |(go_at_call 299;refine cX2.mono ?_;rintro e w3 ⟨hB3,hF3⟩;obtain⟨rfl,hS3⟩:=(show e=.returned (.string ⟨l.toArray⟩)∧qad w3 b {s with pos:=r} from hF3);have HX3:=qaa (HX2.out.step hS3 hB3);have HLL:Hid (l.length≤1000000000):=(show _≤_ from by have h1:r≤s.bs.length:=hS3.le;omega);have k0:=qab HX3.out.box 0)
     |(go_at_call 318;refine(qht w3 m ks l (HKS.out w3 HX3.out.but) HIN.out HLL.out).mono ?_;rintro e w7 ⟨rfl,hB7⟩;have HX7:=qaa (HX3.out.step (HX3.out.src.below hB7) (But.of_below hB7));have k0:=qab HX7.out.box 0;have cR3:=cR2 w7 r HX7.out.src)
     |(go_at_call 295;refine cR3.mono ?_;rintro e w8 ⟨hF,rfl⟩;obtain rfl:=hF))
    exact⟨rfl,.of1 HX7.out.but,rfl⟩
   rw[if_neg hin] at hr;subst hr;have HIN:=qaa hin;go_enter func312,ntmps312
   go_wp2_with (first
    |(go_at_call 298;refine cA.mono ?_;rintro e w2 ⟨hB2,hF2⟩;obtain⟨rfl,hS2⟩:=(show e=.returned (.tuple #[])∧qad w2 b {s with pos:=q} from hF2);have HX2:=qaa (HX.out.step hS2 hB2);have k0:=qab HX2.out.box 0;have cX2:=cX1 w2 HX2.out.src HX2.out.but)
    |(go_at_call 299;refine cX2.mono ?_;rintro e w3 ⟨hB3,hF3⟩;obtain⟨rfl,hS3⟩:=(show e=.returned (.string ⟨l.toArray⟩)∧qad w3 b {s with pos:=r} from hF3);have HX3:=qaa (HX2.out.step hS3 hB3);have HLL:Hid (l.length≤1000000000):=(show _≤_ from by have h1:r≤s.bs.length:=hS3.le;omega);have k0:=qab HX3.out.box 0)
    |(go_at_call 318;refine(ql3 w3 m ks l (HKS.out w3 HX3.out.but) HIN.out hkl HLL.out).mono ?_;rintro e w7 ⟨rfl,hK7,hB7⟩))
   go_ret;exact⟨(qiO.of1 HX3.out.but).trans (qiO.of2 hB7),rfl,HOFF.out _ _ _ HX3.out.src hB7,hK7⟩
end
end Go.Proofs.YtllcbnfmihfaaaaGreatDoor
