import Derived.Test.YtcokgepdckkjdaaGreatDoorRq34
import Derived.Test.YtcokgepdckkjdaaGreatDoorRq36
set_option maxRecDepth 100000
set_option maxHeartbeats 8000000
namespace Go.Proofs.YtcokgepdckkjdaaGreatDoor
open Go.Proofs.Tryz
variable {fm:Int}{L k:Nat}{d:DataW Unit}{B:List Int}{l:List UInt8}{X:Nat->Prop}{V V' W:World}{g:Gt}{gr:Array Value}{R:Rep}{v y:Value}{r:Except Int (List UInt8)}
section
open Go.RowKit Go.Lib
def poF (fm:Int)(k:Nat)(d:DataW Unit)(B:List Int):Except Int (List UInt8) :=
 if fm=1/\qkn k d=true then .error 13 else match qiC fm (wrO fm k d) B with
  |none=>.error 14
  |some l=>.ok l
theorem qrv (h:fm=1/\qkn k d=true):poF fm k d B=.error 13:=if_pos h
theorem qsg (h:¬(fm=1/\qkn k d=true))(a:qiC fm (wrO fm k d) B=none):poF fm k d B=.error 14:=by unfold poF;rw[if_neg h,a]
theorem qr8 (h:¬(fm=1/\qkn k d=true))(a:qiC fm (wrO fm k d) B=some l):poF fm k d B=.ok l:=by unfold poF;rw[if_neg h,a]
structure Frx (X:Nat->Prop)(W V:World):Prop where
 world:V.os=W.os/\V.tape=W.tape/\V.output=W.output
 rows:KpR W V
 block:∀j,j<W.heap.size->X j->V.heap[j]? = W.heap[j]?
theorem Frx.of_below (h:Below W.heap.size W V):Frx X W V:=⟨⟨h.os,h.tape,h.output⟩,KpR.of_below h,fun j a _=>h.block j a⟩
theorem Frx.trans {Z:World}(h:Frx X W V)(g:Frx X V Z):Frx X W Z:=⟨⟨g.world.1.trans h.world.1,g.world.2.1.trans h.world.2.1,g.world.2.2.trans h.world.2.2⟩,h.rows.trans g.rows,fun j a b=>(g.block j (Nat.lt_of_lt_of_le a h.rows.size) b).trans (h.block j a b)⟩
theorem Frx.set (h:Frx X W V){g:Nat}(f:W.heap.size<=g)(cs:Array Value):Frx X W (V.setRow g cs):=by
 refine⟨h.world,⟨by have:=h.rows.size;simpa using this,fun j cs t e a b c d=>(setRow_other _ _ _ _ (by have:=ltA a;omega)).trans (h.rows.row j cs t e a b c d)⟩,fun j a b=>sx (by omega) (h.block j a b)⟩
theorem Frx.alloc (h:Frx X W V)(o:Obj):Frx X W (V.alloc o):=h.trans (Frx.of_below bwA)
theorem Frx.drew (h:Frx X W V):Frx X W {V with drawn:=V.drawn+1}:=⟨h.world,⟨h.rows.size,h.rows.row⟩,h.block⟩
theorem qdJ {P:Program}{fn:Func}{p u u2:Tmp}{ty:TypeId}(h:fn.results=#[.tmp u,.cell p ty,.tmp u2])(b:Array Value)(w:World)(g:Nat)(t:TypeId)(cs:Array Value)(c:Nat×Nat)(d:TypeDesc)(k:b.getD p undef=.pointer (some ⟨g,0,none⟩))(j:w.heap[g]? = some (.cells cs t c))(l:P.underlying ty=some d)(i:(match d with|.struct _|.array _ _=>true|_=>false)=true)(hi:(P.info? ty).map (·.size)=some cs.size)(v f:Value)(m:b.getD u undef=v)(n:b.getD u2 undef=f):(results fn b).run P w=.ok (.tuple #[v,.agg cs,f]) w:=by
 have e:(results fn b).run P w=((asAddr (b.getD p undef)).run P w).andThen fun a o=>((loadVar ty a).run P o).andThen fun v q=>.ok (.tuple #[b.getD u undef,v,b.getD u2 undef]) q:=by
  simp only[results,h];simp[Sem.run_bind,Result.andThen]
 subst m;subst n;rw[e,k];simp only[asAddr,Sem.run_pure,Result.andThen_ok,run_loadVar_row w g t ty cs c d j l i hi]
def poR (R:Rep)(r:Except Int (List UInt8)):Rep:=match r with
 |.ok _=>R
 |.error _=>(0,0,0,0)
def poE (r:Except Int (List UInt8)):Int:=match r with
 |.ok _=>0
 |.error en=>en
def PoV (V:World)(base:Nat)(v:Value)(r:Except Int (List UInt8)):Prop:=match r with
 |.ok l=>Own V base v l
 |.error _=>v=.slice none 0 0
def qlJ (X:Nat->Prop)(W:World)(R:Rep)(r:Except Int (List UInt8))(e:Ending)(V':World):Prop :=
 ∃va vn vc,e=.returned (.tuple #[.slice va vn vc,.agg (qaF (poR R r)),.int .i64 (poE r)])/\Frx X W V'/\PoV V' W.heap.size (.slice va vn vc) r
def qnw (X:Nat->Prop)(N k:Nat)(U:World)(R:Rep)(d:DataW Unit)(e:Ending)(V':World):Prop :=
 ∃t' y',e=.returned (.tuple #[.iface t' y',.agg (qaF R)])/\Frx X U V'/\qai k V' (fun j=>j<N\/(U.heap.size<=j/\j<V'.heap.size)) (.iface t' y') d
structure qvt (X:Nat->Prop)(W:World)(L:Nat)(gr:Array Value)(N8 k:Nat)(R:Rep)(t:TypeId)(y:Value)(d:DataW Unit)(V:World):Prop where
 fr:Frx X W V
 gate:V.heap[L]? = some (.cells gr 101)
 res:V.heap[W.heap.size]? = some (.cells (qaF (0,0,0,0)) 39)
 rep:V.heap[N8]? = some (.cells (qaF R) 39)
 lt:W.heap.size<N8
 thg:qai k V (fun j=>j<V.heap.size) (.iface t y) d
theorem qvt.step {N8:Nat}{t:TypeId}(h:qvt X W L gr N8 k R t y d V)(a:Below V.heap.size V V'):qvt X W L gr N8 k R t y d V' :=
 ⟨h.fr.trans (Frx.of_below a),(a.block _ (ltA h.gate)).trans h.gate,(a.block _ (ltA h.res)).trans h.res,(a.block _ (ltA h.rep)).trans h.rep,h.lt,h.thg.same (fun _ b=>Nat.lt_of_lt_of_le b a.size) (fun j b=>a.block j b)⟩
theorem qxq {t:TypeId}(b:W.heap[L]? = some (.cells gr 101))(hF:Frx X (W.alloc (.cells #[.int .i64 0,.int .i64 0,.int .i64 0,.int .i64 0] 39)) V')(f:qai k V' (fun j=>j<W.heap.size\/((W.alloc (.cells #[.int .i64 0,.int .i64 0,.int .i64 0,.int .i64 0] 39)).heap.size<=j/\j<V'.heap.size)) (.iface t y) d):qvt X W L gr V'.heap.size k R t y d (V'.alloc (.cells (qaF R) 39)):=by
 have e:W.heap.size<V'.heap.size:=by have h:=hF.rows.size;rw[World.size_alloc] at h;omega
 have c:=ltA b;refine⟨?_,?_,?_,qac V' _,e,?_⟩
 ·exact((Frx.of_below bwA).trans hF).alloc _
 ·exact(Below.heap_alloc _ _ _ (by omega)).trans (hF.rows.row L _ _ _ ((Below.heap_alloc W _ _ c).trans b) (by decide) (by decide) (by decide))
 ·exact(Below.heap_alloc _ _ _ (by omega)).trans (hF.rows.row W.heap.size _ _ _ (qac W _) (by decide) (by decide) (by decide))
 refine f.same (fun j a => ?_) (fun j a=>Below.heap_alloc _ _ _ ?_)
 ·rw[World.size_alloc];rcases a with a|a<;>omega
 rcases a with a|a<;>omega

structure WrP (fm:Int)(k:Nat)(d:DataW Unit):Prop where
 ok:∀V t y,qai k V (fun j=>j<V.heap.size) (.iface t y) d->(∀U,Below V.heap.size V U->qiG U.heap.size U)->¬(fm=1/\qkn k d=true)->Calls prog 68 #[.int .i64 fm,.iface t y] V fun e V'=>∃v',e=.returned (.tuple #[v',.int .i64 0])/\Own V' V.heap.size v' (wrO fm k d)/\Below V.heap.size V V'
 kind:qkn k d=true->∀V t y,qai k V (fun j=>j<V.heap.size) (.iface t y) d->Calls prog 68 #[.int .i64 1,.iface t y] V fun e V'=>e=.returned (.tuple #[.slice none 0 0,.int .i64 13])/\Below V.heap.size V V'
 len:∀V t y,qai k V (fun j=>j<V.heap.size) (.iface t y) d->(wrO fm k d).length<=999999999
theorem qiF:(#[Value.int .i64 0,.int .i64 0,.int .i64 0,.int .i64 0]).all (·.oneCell')=true:=by simp[Value.oneCell']
theorem qdV (R:Rep):(qaF R).all (·.oneCell')=true:=by simp[qaF,Value.oneCell']
theorem qvx (R S:Rep):(qaF R).size=(qaF S).size:=rfl
theorem qxf (d:g.rc.size=40){fed:Value}{cl:Bool}(b:V.heap[L]? = some (.cells (qay g fed cl) 101)):∀(j:Nat) (u:Value),g.rc[j]? = some u->V.cell? ⟨L,4+j,none⟩=some u:=by
 intro j u a;refine(qab b (4+j)).trans ?_;have c:j<40:=by have:=ltA a;omega
 unfold qay;rw[Array.getElem?_append_left (by simp;omega),Array.getElem?_append_right (by simp)];simpa using a
theorem qgZ {base N:Nat}{cs cs':Array Value}(h:Own W base v l)(j:W.heap[N]? = some (.cells cs 39)):Own (W.setRow N cs') base v l:=by
 refine⟨⟨h.1.1,?_⟩,by have:=h.2.1;simpa using this,h.2.2⟩;rcases h.1.2 with b|⟨g,c,d,b,f,a,i⟩
 ·exact .inl b
 refine .inr ⟨g,c,d,b,f,(setRow_other _ _ _ _ (fun e => ?_)).trans a,i⟩;subst e;rw[j] at a;injection a with a;injection a with _ a _;exact absurd a (by decide)
theorem qv1 (a:g.rc.size=40):(prog.info? 98).map (·.size)=some g.rc.size:=by rw[a];kernel_rfl
theorem qm9 (X:Nat->Prop)(k:Nat)(W:World)(L:Nat)(g:Gt)(aw:g.rc.size=40)(v:Value)(u:Bool)(M:W.heap[L]? = some (.cells (qay g v u) 101))(ag:TypeId)(y:Value)(R:Rep)(d:DataW Unit)(ba:Option Addr)(C:Nat)(B:List Int)(av:g.bk=.slice ba B.length C)(ar:B.length<=8)(aq:∀i (h:i<B.length),B[i]<=65536)(wp:WrP g.out k d)(hI:∀V,Frx X W V->qbV V ba B)(hT:∀V,Frx X W V->qiG V.heap.size V)(cR:∀U,Below W.heap.size W U->Calls prog 67 #[.agg g.rc,.iface ag y] U (qnw X W.heap.size k U R d)):Calls prog 40 #[.pointer (some ⟨L,0,none⟩),.iface ag y] W (qlJ X W R (poF g.out k d B)):=by
 have hL:L<W.heap.size:=ltA M;have HG:Hid (W.heap[L]? = some (.cells (qay g v u) 101)):=M;have Q:Hid (g.rc.size=40):=aw;have ao:Calls prog 67 #[.agg g.rc,.iface ag y] (W.alloc (.cells #[.int .i64 0,.int .i64 0,.int .i64 0,.int .i64 0] 39)) fun e V'=>∃q r,e=.returned (.tuple #[.iface q r,.agg (qaF R)])/\Hid (qvt X W L (qay g v u) V'.heap.size k R q r d (V'.alloc (.cells (qaF R) 39))):=(cR _ bwA).mono (by
  rintro e V' ⟨q,r,rfl,h1,h2⟩;exact⟨q,r,rfl,qxq M h1 h2⟩)
 have HI:Hid (∀V,Frx X W V->qbV V ba B):=hI;have HT:Hid (∀V,Frx X W V->qiG V.heap.size V):=hT;have ax:Hid (∀i (h:i<B.length),B[i]<=65536):=aq;have ay:Hid (B.length<=8):=ar;have H:=qaa wp;have ai:Hid (g.bk=.slice ba B.length C):=av;have al:Hid ((W.alloc (.cells #[.int .i64 0,.int .i64 0,.int .i64 0,.int .i64 0] 39)).heap[L]? = some (.cells (qay g v u) 101)):=(Below.heap_alloc W _ _ hL).trans M;clear cR hI hT aq ar wp av M aw;go_enter func40,ntmps40
 go_wp2_with (first
  |(refine qcv 98 (.tmp 16) rfl rfl L 4 rfl g.rc _ (qxf Q.out al.out) underlying98 rfl (qv1 Q.out) ?_)
  |fail)
 refine ao.mono ?_;clear ao al;rintro e N ⟨q,r,rfl,f⟩;obtain⟨b,am⟩:∃b,Hid (N.alloc (.cells (qaF R) 39)=b):=⟨_,rfl⟩
 obtain⟨c,z⟩:∃c,Hid (N.heap.size=c):=⟨_,rfl⟩
 rw[am.out,z.out] at f;have O:Hid ((N.alloc (.cells #[.int .i64 0,.int .i64 0,.int .i64 0,.int .i64 0] 39)).heap[c]? = some (.cells (qaF (0,0,0,0)) 39)):=by show _=_;rw[<-z.out];exact qac N _
 have T:Hid ((N.alloc (.cells #[.int .i64 0,.int .i64 0,.int .i64 0,.int .i64 0] 39)).setRow c (qaF R)=b):=by show _=_;rw[<-z.out,<-am.out];exact World.setRow_alloc_new _ _ _ _
 have c1:b.cell? ⟨L,1,none⟩=some (.int .i64 g.out):=(qab f.out.gate 1).trans (qe5 _ _ 1 (by omega));by_cases x:g.out=1/\qkn k d=true
 ·have G:Hid (poF g.out k d B=.error 13):=qrv x;have D:=H.out.kind x.2 b q r f.out.thg;rw[x.1] at c1;clear x H
  go_wp2_with (first
   |(refine wpList_store_row rfl 39 _ _ rfl c (qaF R) (congrArg (fun n=>Value.pointer (some ⟨n,0,none⟩)) z.out) rfl 39 _ O.out (qaS R) rfl (qdV R) ?_;rw[T.out];clear O T)
   |(go_at_call 68;refine D.mono ?_;clear D c1;rintro e j ⟨rfl,I⟩;have s:Hid (qvt X W L (qay g v u) c k R q r d j):=f.out.step I;clear I f)
   |(refine wpList_store_row rfl 39 _ _ rfl W.heap.size #[.int .i64 0,.int .i64 0,.int .i64 0,.int .i64 0] rfl rfl 39 _ s.out.res qcs rfl qiF ?_))
  refine bodyPost_ret (qdJ results40 _ _ W.heap.size 39 #[.int .i64 0,.int .i64 0,.int .i64 0,.int .i64 0] (0,0) _ rfl (setRow_heap _ _ _ _ _ _ s.out.res) underlying39 rfl qcs _ _ rfl rfl) rfl ?_;rw[G.out];exact⟨none,0,0,rfl,s.out.fr.set (Nat.le_refl _) _,rfl⟩
 have P:Hid (¬(g.out=1/\qkn k d=true)):=x;have aj:Hid ((wrO g.out k d).length<=999999999):=H.out.len _ _ _ f.out.thg;have D:=H.out.ok b q r f.out.thg (fun U hU=>HT.out U (f.out.fr.trans (Frx.of_below hU))) x;clear x H HT;obtain⟨F,HY⟩:∃F,Hid (wrO g.out k d=F):=⟨_,rfl⟩
 rw[HY.out] at aj D;obtain⟨E,ab⟩:∃E,Hid (qiC g.out F B=E):=⟨_,rfl⟩
 go_wp2_with (first
  |(refine wpList_store_row rfl 39 _ _ rfl c (qaF R) (congrArg (fun n=>Value.pointer (some ⟨n,0,none⟩)) z.out) rfl 39 _ O.out (qaS R) rfl (qdV R) ?_;rw[T.out];clear O T)
  |(go_at_call 68;refine D.mono ?_;clear D;rintro e j ⟨v3,rfl,af,I⟩;obtain⟨Y,n3,k3,rfl⟩:=af.2.2;have ah:Hid (Below b.heap.size b j):=I;have ak:Hid (Own j b.heap.size (.slice Y n3 k3) F):=af;clear I af c1))
 have aa:Hid (Below b.heap.size b ({j with drawn:=j.drawn+1}:World)):=ah.out.drew;have A:Hid (Own ({j with drawn:=j.drawn+1}:World) b.heap.size (.slice Y n3 k3) F):=ak.out;have s:Hid (qvt X W L (qay g v u) c k R q r d ({j with drawn:=j.drawn+1}:World)):=f.out.step aa.out;refine rgn (S:=fun Z=>Z.cell? ⟨L,1,none⟩=some (.int .i64 g.out)/\Z.cell? ⟨L,44,none⟩=some (.slice ba B.length C)) (⟨(qab s.out.gate 1).trans (qe5 _ _ 1 (by omega)),((qab s.out.gate 44).trans (qbO Q.out _ _ 0)).trans (congrArg some ai.out)⟩) (by kernel_rfl) ?_;intro p;clear ah ak;generalize ({j with drawn:=j.drawn+1}:World)=w5 at *;have cF:=qqQ w5 b.heap.size g.out (.slice Y n3 k3) F ba C B A.out (HI.out w5 s.out.fr) ay.out ax.out aj.out;rw[ab.out] at cF;refine tkH 0 36 (.pointer (some ⟨L,0,none⟩)) rfl (by kernel_rfl) (fun _ _ _ h=>h) (fun Z a=>by kernel_rfl) p ?_;refine tkH 1 37 (.pointer (some ⟨L,0,none⟩)) rfl (by kernel_rfl) (fun _ _ _ h=>h) (fun Z a=>by kernel_rfl) p ?_;refine tkH 2 38 (.pointer (some ⟨L,1,none⟩)) rfl (by kernel_rfl) (fun _ _ _ h=>h) (fun Z a=>by kernel_rfl) p ?_;refine tkH 3 39 (.int .i64 g.out) rfl (by kernel_rfl) (fun _ _ _ h=>h) (fun Z a => ?y3) p ?_
 case y3=>(have z1:=a.1;go_simp)
 refine tkH 4 40 (.slice Y n3 k3) rfl (by kernel_rfl) (fun _ _ _ h=>h) (fun Z a=>by kernel_rfl) p ?_;refine tkH 5 41 (.pointer (some ⟨L,0,none⟩)) rfl (by kernel_rfl) (fun _ _ _ h=>h) (fun Z a=>by kernel_rfl) p ?_;refine tkH 6 42 (.pointer (some ⟨L,0,none⟩)) rfl (by kernel_rfl) (fun _ _ _ h=>h) (fun Z a=>by kernel_rfl) p ?_;refine tkH 7 43 (.pointer (some ⟨L,44,none⟩)) rfl (by kernel_rfl) (fun _ _ _ h=>h) (fun Z a=>by kernel_rfl) p ?_;refine tkH 8 44 (.slice ba B.length C) rfl (by kernel_rfl) (fun _ _ _ h=>h) (fun Z a => ?y8) p ?_
 case y8=>(have z1:=a.2;go_simp)
 refine rdS 9 rfl (by kernel_rfl) (fun a1 J => ?_);go_simp;refine cF.mono ?_;clear cF;rintro e m ⟨⟨v4,rfl,ad,ae⟩,ap⟩;have o:Hid (qvt X W L (qay g v u) c k R q r d m):=f.out.step (aa.out.trans ap);have an:Hid (W.heap.size<=b.heap.size):=f.out.fr.rows.size;have w:(fun Z:World=>Z.cell? ⟨L,1,none⟩=some (.int .i64 g.out)/\Z.cell? ⟨L,44,none⟩=some (.slice ba B.length C)) m:=⟨(qab o.out.gate 1).trans (qe5 _ _ 1 (by omega)),((qab o.out.gate 44).trans (qbO Q.out _ _ 0)).trans (congrArg some ai.out)⟩
 simp only[];refine J.out _ _ w (fun _ => ?_);clear J ap f s aa A p;refine tkH 10 35 (.tuple #[v4,.bool E.isSome]) rfl (by kernel_rfl) (fun _ _ _ h=>h) (fun Z a=>by kernel_rfl) w ?_;refine tkH 11 46 v4 rfl (by kernel_rfl) (fun _ _ _ h=>h) (fun Z a=>by kernel_rfl) w ?_;refine tkH 12 47 (.bool E.isSome) rfl (by kernel_rfl) (fun _ _ _ h=>h) (fun Z a=>by kernel_rfl) w ?_;refine tkH 13 11 v4 rfl (by kernel_rfl) (fun _ _ _ h=>h) (fun Z a=>by kernel_rfl) w ?_;refine tkH 14 12 (.bool E.isSome) rfl (by kernel_rfl) (fun _ _ _ h=>h) (fun Z a=>by kernel_rfl) w ?_;refine wpAnyH_done (by kernel_rfl) ?_ _;go_simp;clear w
 cases E with
 |none =>
  have G:Hid (poF g.out k d B=.error 14):=qsg P.out (by rw[HY.out];exact ab.out);obtain rfl:=ad rfl;clear P ad ae;simp only[Option.isSome_none]
  go_wp2_with (first
   |(refine wpList_store_row rfl 39 _ _ rfl W.heap.size #[.int .i64 0,.int .i64 0,.int .i64 0,.int .i64 0] rfl rfl 39 _ o.out.res qcs rfl qiF ?_))
  refine bodyPost_ret (qdJ results40 _ _ W.heap.size 39 #[.int .i64 0,.int .i64 0,.int .i64 0,.int .i64 0] (0,0) _ rfl (setRow_heap _ _ _ _ _ _ o.out.res) underlying39 rfl qcs _ _ rfl rfl) rfl ?_;rw[G.out];exact⟨none,0,0,rfl,o.out.fr.set (Nat.le_refl _) _,rfl⟩
 |some l =>
  have G:Hid (poF g.out k d B=.ok l):=qr8 P.out (by rw[HY.out];exact ab.out);have A:Hid (Own m b.heap.size v4 l):=ae l rfl;obtain⟨K,n4,k4,rfl⟩:=A.out.2.2;clear P ad ae;simp only[Option.isSome_some]
  go_wp2_with fail
  refine rgn (S:=fun Z=>Z.heap[c]? = some (.cells (qaF R) 39)) (o.out.rep) (by kernel_rfl) ?_;intro t;have a0:Hid (Frx X W {m with drawn:=m.drawn+1}):=o.out.fr.drew;have ac:Hid (({m with drawn:=m.drawn+1}:World).heap[W.heap.size]? = some (.cells (qaF (0,0,0,0)) 39)):=o.out.res;have az:Hid (Own {m with drawn:=m.drawn+1} W.heap.size (.slice K n4 k4) l):=(A.out).mono an.out;have a2:W.heap.size<c:=o.out.lt;clear o A an;generalize ({m with drawn:=m.drawn+1}:World)=w6 at *;refine tkH 0 51 (.slice K n4 k4) rfl (by kernel_rfl) (fun _ _ _ h=>h) (fun Z a=>by kernel_rfl) t ?_;refine tkH 1 52 (.agg (qaF R)) rfl (by kernel_rfl) (fun _ _ _ h=>h) (fun Z a => ?y1) t ?_
  case y1=>exact qix 39 (.tmp 8) (by kernel_rfl) c (congrArg (fun n=>Value.pointer (some ⟨n,0,none⟩)) z.out) _ _ _ _ a underlying39 (by kernel_rfl) (qaS R)
  refine tkH 2 4 (.slice K n4 k4) rfl (by kernel_rfl) (fun _ _ _ h=>h) (fun Z a=>by kernel_rfl) t ?_;refine rdS 3 rfl (by kernel_rfl) (fun a1 J => ?_);refine ifw (by kernel_rfl) ?_;refine wp_store_row 39 (.tmp 5) (.tmp 52) rfl W.heap.size (qaF R) (by kernel_rfl) (by kernel_rfl) 39 (qaF (0,0,0,0)) ac.out (qaS R) (qvx _ _) (qdV R) ?_;have au:(fun Z:World=>Z.heap[c]? = some (.cells (qaF R) 39)) (w6.setRow W.heap.size (qaF R)):=sx (by omega) t;refine J.out _ _ au (fun _ => ?_);clear J;refine tkH 4 6 (.int .i64 0) rfl (by kernel_rfl) (fun _ _ _ h=>h) (fun Z a=>by kernel_rfl) au ?_;refine wpAnyH_done (by kernel_rfl) ?_ _;go_simp
  go_wp2_with fail
  refine bodyPost_ret (qdJ results40 _ _ W.heap.size 39 (qaF R) (0,0) _ rfl (setRow_heap _ _ _ _ _ _ ac.out) underlying39 rfl (qaS R) _ _ rfl rfl) rfl ?_;rw[G.out];exact⟨K,n4,k4,rfl,a0.out.set (Nat.le_refl _) _,qgZ az.out ac.out⟩

def gtZ:Gt:=⟨0,0,0,0,qan 0 (fun _ _=>false)++#[.int .i64 0,.int .i64 0,.pointer none],.slice none 0 0⟩
theorem qki:gtZ.rc.size=40:=by kernel_rfl
theorem qcC (c:g.rc.size=40)(b:Value)(a:Bool):(qay g b a).size=47:=by unfold qay;simp[c]
theorem qkM (ρ:Operand->Value)(o:Oper)(a:o.op=.alloc 101)(w:World):(execOp ρ o).run prog w=.ok (.value (.pointer (some ⟨w.heap.size,0,none⟩))) (w.alloc (.cells (qay gtZ (.slice none 0 0) false) 101)):=by
 unfold execOp;rw[a];kernel_rfl
theorem qdC {ops:Array Oper}{rest:List Oper}{o:Oper}{a:Act}{w:World}{Q:Exit->Act->World->Prop}(e:o.guard=none)(f:o.op=.alloc 101)(d:Option Tmp)(c:o.dst=d)(N:Nat)(b:w.heap.size=N)(h:wpList prog ops Q rest (a.put d (.pointer (some ⟨N,0,none⟩))) (w.alloc (.cells (qay gtZ (.slice none 0 0) false) 101))):wpList prog ops Q (o::rest) a w:=by
 subst b;exact Great.wpList_allocTo e d c _ _ (qkM _ _ f _) h
theorem qpB:prog.built 101 [(6,.bool true)]=some (qay gtZ (.slice none 0 0) true):=by kernel_rfl
theorem qhr {A:Array Value}(h:A.size=47):(prog.info? 101).map (·.size)=some A.size:=by rw[h];kernel_rfl
abbrev Cz:=Except (Int×Int) (Rep×Except Int (List UInt8))
def czR (z:Cz):Rep:=match z with
 |.ok (R,r)=>poR R r
 |.error _=>(0,0,0,0)
def czE (z:Cz):Int:=match z with
 |.ok (_,r)=>poE r
 |.error (en,_)=>en
def czP (z:Cz):Int:=match z with
 |.ok _=>0
 |.error (_,pl)=>pl
def CzV (V:World)(base:Nat)(v:Value)(z:Cz):Prop:=match z with
 |.ok (_,r)=>PoV V base v r
 |.error _=>v=.slice none 0 0
def clW (W:World)(L:Nat)(g:Gt)(fv:Value):World:=((W.alloc (.cells #[.int .i64 0,.int .i64 0,.int .i64 0,.int .i64 0] 39)).alloc (.cells (qay g fv false) 101)).setRow L (qay gtZ (.slice none 0 0) true)
structure Fry (X:Nat->Prop)(L:Nat)(W V:World):Prop where
 world:V.os=W.os/\V.tape=W.tape/\V.output=W.output
 size:W.heap.size<=V.heap.size
 rows:∀(k:Nat) (cs:Array Value) (t:TypeId) (fr:Nat×Nat),k≠L->W.heap[k]? = some (.cells cs t fr)->t≠133->t≠175->t≠183->V.heap[k]? = some (.cells cs t fr)
 block:∀j,j<W.heap.size->j≠L->X j->V.heap[j]? = W.heap[j]?
theorem Fry.set (h:Fry X L W V){g:Nat}(i:W.heap.size<=g)(cs:Array Value):Fry X L W (V.setRow g cs) :=
 ⟨h.world,by have:=h.size;simpa using this,fun k cs t f a b c d e=>(setRow_other _ _ _ _ (by have:=ltA b;omega)).trans (h.rows k cs t f a b c d e),fun j a b c=>sx (by omega) (h.block j a b c)⟩
def qwk (X:Nat->Prop)(W:World)(L:Nat)(z:Cz)(e:Ending)(V':World):Prop :=
 ∃va vn vc,e=.returned (.tuple #[.slice va vn vc,.agg (qaF (czR z)),.int .i64 (czE z),.int .i64 (czP z)])/\Fry X L W V'/\V'.heap[L]? = some (.cells (qay gtZ (.slice none 0 0) true) 101)/\CzV V' W.heap.size (.slice va vn vc) z
theorem qft (W:World)(L:Nat)(g:Gt)(a:Value):(clW W L g a).heap.size=W.heap.size+2:=by simp[clW]
theorem quk (W:World)(L:Nat)(g:Gt)(a:Value)(b:L<W.heap.size):(clW W L g a).heap[W.heap.size]? = some (.cells (qaF (0,0,0,0)) 39):=sx (by omega) ((Below.heap_alloc _ _ _ (by simp)).trans (qac W _))
theorem ql2 (W:World)(L:Nat)(g:Gt)(a:Value)(b:L<W.heap.size):(clW W L g a).heap[W.heap.size+1]? = some (.cells (qay g a false) 101):=by
 have h:=qac (W.alloc (.cells #[.int .i64 0,.int .i64 0,.int .i64 0,.int .i64 0] 39)) (.cells (qay g a false) 101);rw[World.size_alloc] at h;exact sx (by omega) h
theorem qq8 (W:World)(L:Nat)(g:Gt)(a:Value)(b:W.heap[L]? = some (.cells (qay g a false) 101)):(clW W L g a).heap[L]? = some (.cells (qay gtZ (.slice none 0 0) true) 101):=by
 have c:=ltA b;exact setRow_heap _ _ _ _ _ _ ((Below.heap_alloc _ _ _ (by rw[World.size_alloc];omega)).trans ((Below.heap_alloc _ _ _ c).trans b))
theorem qgj (W:World)(L:Nat)(g:Gt)(a:Value)(j:Nat)(b:j<W.heap.size)(c:j≠L):(clW W L g a).heap[j]? = W.heap[j]?:=(setRow_other _ _ _ _ c).trans ((Below.heap_alloc _ _ _ (by rw[World.size_alloc];omega)).trans (Below.heap_alloc _ _ _ b))
theorem qpV (W:World)(L:Nat)(g:Gt)(a:Value):(clW W L g a).os=W.os/\(clW W L g a).tape=W.tape/\(clW W L g a).output=W.output:=⟨rfl,rfl,rfl⟩
theorem Fry.of {fv:Value}(h:Frx X (clW W L g fv) V):Fry X L W V:=by
 have l:=h.rows.size;rw[qft] at l;refine⟨h.world,by omega,fun k cs t f a b c d e => ?_,fun j a b c => ?_⟩
 ·have i:=ltA b;exact h.rows.row k cs t f ((qgj W L g fv k i a).trans b) c d e
 exact(h.block j (by rw[qft];omega) c).trans (qgj W L g fv j a b)
structure qx2 (X:Nat->Prop)(W W3:World)(L N11:Nat)(R:Rep)(v:Value)(r:Except Int (List UInt8))(V:World):Prop where
 fr:Frx X W3 V
 res:V.heap[W.heap.size]? = some (.cells (qaF (0,0,0,0)) 39)
 rep:V.heap[N11]? = some (.cells (qaF R) 39)
 lt:W.heap.size<N11
 gate:V.heap[L]? = some (.cells (qay gtZ (.slice none 0 0) true) 101)
 val:PoV V W.heap.size v r
theorem PoV.same {b b':Nat}(h:PoV V b v r)(a:∀l,Own V b v l->Own V' b' v l):PoV V' b' v r:=by
 cases r with
 |ok l=>exact a l h
 |error e=>exact h
theorem qwR {W3 U:World}(e:W.heap.size<U.heap.size)(b:Frx X W3 U)(hF:Frx X U V')(c:U.heap[W.heap.size]? = some (.cells (qaF (0,0,0,0)) 39))(a:U.heap[L]? = some (.cells (qay gtZ (.slice none 0 0) true) 101))(d:PoV V' U.heap.size v r):qx2 X W W3 L V'.heap.size R v r (V'.alloc (.cells (qaF R) 39)):=by
 have f:=hF.rows.size;exact⟨(b.trans hF).alloc _,(Below.heap_alloc _ _ _ (by omega)).trans (hF.rows.row _ _ _ _ c (by decide) (by decide) (by decide)),qac V' _,by omega,(Below.heap_alloc _ _ _ (by have:=ltA a;omega)).trans (hF.rows.row _ _ _ _ a (by decide) (by decide) (by decide)),d.same fun l h=>qgt (h.mono (by omega)) bwA⟩

end
end Go.Proofs.YtcokgepdckkjdaaGreatDoor
