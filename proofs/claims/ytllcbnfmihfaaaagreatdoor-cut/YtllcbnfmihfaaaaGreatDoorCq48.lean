import Derived.Test.YtllcbnfmihfaaaaGreatDoorCq36
import Derived.Test.YtllcbnfmihfaaaaGreatDoorCq43
import Derived.Test.YtllcbnfmihfaaaaGreatDoorCq46
import Derived.Test.YtllcbnfmihfaaaaGreatDoorCq47
set_option maxRecDepth 100000
set_option maxHeartbeats 8000000
namespace Go.Proofs.YtllcbnfmihfaaaaGreatDoor
open Go.Proofs.Tryz
variable {fm:Int}{A L b k sc:Nat}{d:DataW Unit}{B:List Int}{l:List UInt8}{X:Nat→Prop}{U V V' W W0:World}{g:Gt}{gr:Array Value}{R:Rep}{bv v y:Value}{r:Except Int (List UInt8)}{c:Cfg}{q:Aut}{sts:List ((Nat→Nat)×Int×Int)}{sa:Option Addr}{mf nf:Lit→Option Nat}
section
open Go.RowKit Go.Lib
def poF (fm:Int)(k:Nat)(d:DataW Unit)(B:List Int):Except Int (List UInt8) :=
 if fm=1∧qkn k d=true then .error 13 else match qiC fm (wrO fm k d) B with
  |none=>.error 14
  |some l=>.ok l
theorem qrv (h:fm=1∧qkn k d=true):poF fm k d B=.error 13:=if_pos h
theorem qsg (h:¬(fm=1∧qkn k d=true))(hf:qiC fm (wrO fm k d) B=none):poF fm k d B=.error 14:=by unfold poF;rw[if_neg h,hf]
theorem qr8 (h:¬(fm=1∧qkn k d=true))(hf:qiC fm (wrO fm k d) B=some l):poF fm k d B=.ok l:=by unfold poF;rw[if_neg h,hf]
structure Frx (X:Nat→Prop)(W V:World):Prop where
 world:V.os=W.os∧V.tape=W.tape∧V.output=W.output
 rows:KpR W V
 block:∀j,j<W.heap.size→X j→V.heap[j]? = W.heap[j]?
theorem Frx.of_below (h:Below W.heap.size W V):Frx X W V:=⟨⟨h.os,h.tape,h.output⟩,KpR.of_below h,fun j a _=>h.block j a⟩
theorem Frx.trans {Z:World}(h:Frx X W V)(g:Frx X V Z):Frx X W Z:=⟨⟨g.world.1.trans h.world.1,g.world.2.1.trans h.world.2.1,g.world.2.2.trans h.world.2.2⟩,h.rows.trans g.rows,fun j a b=>(g.block j (Nat.lt_of_lt_of_le a h.rows.size) b).trans (h.block j a b)⟩
theorem Frx.set (h:Frx X W V){g:Nat}(hg:W.heap.size≤g)(cs:Array Value):Frx X W (V.setRow g cs):=by
 refine⟨h.world,⟨by have:=h.rows.size;simpa using this,fun j cs t fr a b c d=>(setRow_other _ _ _ _ (by have:=ltA a;omega)).trans (h.rows.row j cs t fr a b c d)⟩,fun j a b=>sx (by omega) (h.block j a b)⟩
theorem Frx.alloc (h:Frx X W V)(o:Obj):Frx X W (V.alloc o):=h.trans (Frx.of_below bwA)
theorem Frx.drew (h:Frx X W V):Frx X W {V with drawn:=V.drawn+1}:=⟨h.world,⟨h.rows.size,h.rows.row⟩,h.block⟩
theorem qdJ {P:Program}{fn:Func}{p u u2:Tmp}{ty:TypeId}(h:fn.results=#[.tmp u,.cell p ty,.tmp u2])(tmps:Array Value)(w:World)(g:Nat)(t:TypeId)(cs:Array Value)(fr:Nat×Nat)(d:TypeDesc)(hp:tmps.getD p undef=.pointer (some ⟨g,0,none⟩))(hg:w.heap[g]? = some (.cells cs t fr))(hu:P.underlying ty=some d)(hd:(match d with|.struct _|.array _ _=>true|_=>false)=true)(hi:(P.info? ty).map (·.size)=some cs.size)(v v2:Value)(hv:tmps.getD u undef=v)(hv2:tmps.getD u2 undef=v2):(results fn tmps).run P w=.ok (.tuple #[v,.agg cs,v2]) w:=by
 have e:(results fn tmps).run P w=((asAddr (tmps.getD p undef)).run P w).andThen fun a w₁=>((loadVar ty a).run P w₁).andThen fun v w₂=>.ok (.tuple #[tmps.getD u undef,v,tmps.getD u2 undef]) w₂:=by
  simp only[results,h];simp[Sem.run_bind,Result.andThen]
 subst hv;subst hv2;rw[e,hp];simp only[asAddr,Sem.run_pure,Result.andThen_ok,run_loadVar_row w g t ty cs fr d hg hu hd hi]
def poR (R:Rep)(r:Except Int (List UInt8)):Rep:=match r with
 |.ok _=>R
 |.error _=>(0,0,0,0)
def poE (r:Except Int (List UInt8)):Int:=match r with
 |.ok _=>0
 |.error en=>en
def PoV (V:World)(base:Nat)(v:Value)(r:Except Int (List UInt8)):Prop:=match r with
 |.ok l=>Own V base v l
 |.error _=>v=.slice none 0 0
def qlJ (X:Nat→Prop)(W:World)(R:Rep)(r:Except Int (List UInt8))(e:Ending)(V':World):Prop :=
 ∃va vn vc,e=.returned (.tuple #[.slice va vn vc,.agg (qaF (poR R r)),.int .i64 (poE r)])∧Frx X W V'∧PoV V' W.heap.size (.slice va vn vc) r
def qnw (X:Nat→Prop)(N k:Nat)(U:World)(R:Rep)(d:DataW Unit)(e:Ending)(V':World):Prop :=
 ∃t' y',e=.returned (.tuple #[.iface t' y',.agg (qaF R)])∧Frx X U V'∧qai k V' (fun j=>j<N∨(U.heap.size≤j∧j<V'.heap.size)) (.iface t' y') d
structure qvt (X:Nat→Prop)(W:World)(L:Nat)(gr:Array Value)(N8 k:Nat)(R:Rep)(t:TypeId)(y:Value)(d:DataW Unit)(V:World):Prop where
 fr:Frx X W V
 gate:V.heap[L]? = some (.cells gr 119)
 res:V.heap[W.heap.size]? = some (.cells (qaF (0,0,0,0)) 50)
 rep:V.heap[N8]? = some (.cells (qaF R) 50)
 lt:W.heap.size<N8
 thg:qai k V (fun j=>j<V.heap.size) (.iface t y) d
theorem qvt.step {N8:Nat}{t:TypeId}(h:qvt X W L gr N8 k R t y d V)(hb:Below V.heap.size V V'):qvt X W L gr N8 k R t y d V' :=
 ⟨h.fr.trans (Frx.of_below hb),(hb.block _ (ltA h.gate)).trans h.gate,(hb.block _ (ltA h.res)).trans h.res,(hb.block _ (ltA h.rep)).trans h.rep,h.lt,h.thg.same (fun _ hj=>Nat.lt_of_lt_of_le hj hb.size) (fun j hj=>hb.block j hj)⟩
theorem qxq {t:TypeId}(hg:W.heap[L]? = some (.cells gr 119))(hF:Frx X (W.alloc (.cells #[.int .i64 0,.int .i64 0,.int .i64 0,.int .i64 0] 50)) V')(ht:qai k V' (fun j=>j<W.heap.size∨((W.alloc (.cells #[.int .i64 0,.int .i64 0,.int .i64 0,.int .i64 0] 50)).heap.size≤j∧j<V'.heap.size)) (.iface t y) d):qvt X W L gr V'.heap.size k R t y d (V'.alloc (.cells (qaF R) 50)):=by
 have hs:W.heap.size<V'.heap.size:=by have h:=hF.rows.size;rw[World.size_alloc] at h;omega
 have hL:=ltA hg;refine⟨?_,?_,?_,qac V' _,hs,?_⟩
 ·exact((Frx.of_below bwA).trans hF).alloc _
 ·exact(Below.heap_alloc _ _ _ (by omega)).trans (hF.rows.row L _ _ _ ((Below.heap_alloc W _ _ hL).trans hg) (by decide) (by decide) (by decide))
 ·exact(Below.heap_alloc _ _ _ (by omega)).trans (hF.rows.row W.heap.size _ _ _ (qac W _) (by decide) (by decide) (by decide))
 refine ht.same (fun j hj => ?_) (fun j hj=>Below.heap_alloc _ _ _ ?_)
 ·rw[World.size_alloc];rcases hj with hj|hj<;>omega
 rcases hj with hj|hj<;>omega
theorem quT (k:Nat)(d:DataW Unit):wrO 1 k d=qbd k d:=if_pos rfl
theorem qto (k:Nat)(d:DataW Unit):wrO 2 k d=qaU k d:=by unfold wrO;rw[if_neg (by decide),if_pos rfl]
theorem qul (k:Nat)(d:DataW Unit):wrO 3 k d=qcV k d:=by unfold wrO;rw[if_neg (by decide),if_neg (by decide)]
theorem qqW (fm:Int)(k:Nat)(V:World)(t:TypeId)(y:Value)(d:DataW Unit)(hfm:fm=1∨fm=2∨fm=3)(hD:qai k V (fun j=>j<V.heap.size) (.iface t y) d)(hsz:szF k d≤999999999)(hT:∀U,Below V.heap.size V U→qiG U.heap.size U)(hn:¬(fm=1∧qkn k d=true)):Calls prog 42 #[.int .i64 fm,.iface t y] V fun e V'=>∃v',e=.returned (.tuple #[v',.int .i64 0])∧Own V' V.heap.size v' (wrO fm k d)∧Below V.heap.size V V':=by
 have hlen:=Nat.le_trans (qpv fm hD) hsz;refine qmy k V fm t y d _ hD hn (fun U hU => ?_);have hDU:=hD.same (fun j hj=>Nat.lt_of_lt_of_le hj hU.size) (fun j hj=>hU.block j hj);rcases hfm with rfl|rfl|rfl
 ·rw[quT] at hlen ⊢;exact qhK k U _ _ d (fun _ h=>h) (hT U hU) hDU hlen
 ·rw[qto] at hlen ⊢;exact qej k U _ _ d (fun _ h=>h) hDU hlen
 rw[qul] at hlen ⊢;exact qhC k U _ _ d (fun _ h=>h) hDU hlen
theorem qiF:(#[Value.int .i64 0,.int .i64 0,.int .i64 0,.int .i64 0]).all (·.oneCell')=true:=by simp[Value.oneCell']
theorem qdV (R:Rep):(qaF R).all (·.oneCell')=true:=by simp[qaF,Value.oneCell']
theorem qvx (R S:Rep):(qaF R).size=(qaF S).size:=rfl
theorem qxf (hrc:g.rc.size=40){fed:Value}{cl:Bool}(hg:V.heap[L]? = some (.cells (qay g fed cl) 119)):∀(j:Nat) (u:Value),g.rc[j]? = some u→V.cell? ⟨L,4+j,none⟩=some u:=by
 intro j u hu;refine(qab hg (4+j)).trans ?_;have hj:j<40:=by have:=ltA hu;omega
 unfold qay;rw[Array.getElem?_append_left (by simp;omega),Array.getElem?_append_right (by simp)];simpa using hu
theorem qgZ {base N:Nat}{cs cs':Array Value}(h:Own W base v l)(hn:W.heap[N]? = some (.cells cs 50)):Own (W.setRow N cs') base v l:=by
 refine⟨⟨h.1.1,?_⟩,by have:=h.2.1;simpa using this,h.2.2⟩;rcases h.1.2 with h0|⟨g,cap,cur,h0,h1,hh,h2⟩
 ·exact .inl h0
 refine .inr ⟨g,cap,cur,h0,h1,(setRow_other _ _ _ _ (fun e => ?_)).trans hh,h2⟩;subst e;rw[hn] at hh;injection hh with hh;injection hh with _ hh _;exact absurd hh (by decide)
theorem qv1 (hrc:g.rc.size=40):(prog.info? 116).map (·.size)=some g.rc.size:=by rw[hrc];kernel_rfl
theorem qm9 (X:Nat→Prop)(k:Nat)(W:World)(L:Nat)(g:Gt)(hrc:g.rc.size=40)(fed:Value)(cl:Bool)(hg:W.heap[L]? = some (.cells (qay g fed cl) 119))(t:TypeId)(y:Value)(R:Rep)(d:DataW Unit)(ba:Option Addr)(bc:Nat)(B:List Int)(hbk:g.bk=.slice ba B.length bc)(hB8:B.length≤8)(hB6:∀i (h:i<B.length),B[i]≤65536)(hfm:g.out=1∨g.out=2∨g.out=3)(hsz:szF k d≤999999999)(hI:∀V,Frx X W V→qbV V ba B)(hT:∀V,Frx X W V→qiG V.heap.size V)(cR:∀U,Below W.heap.size W U→Calls prog 89 #[.agg g.rc,.iface t y] U (qnw X W.heap.size k U R d)):Calls prog 53 #[.pointer (some ⟨L,0,none⟩),.iface t y] W (qlJ X W R (poF g.out k d B)):=by
 have hL:=ltA hg;have HG:=qaa hg;have HRC:=qaa hrc;have cR1:Calls prog 89 #[.agg g.rc,.iface t y] (W.alloc (.cells #[.int .i64 0,.int .i64 0,.int .i64 0,.int .i64 0] 50)) fun e V'=>∃t' y',e=.returned (.tuple #[.iface t' y',.agg (qaF R)])∧Hid (qvt X W L (qay g fed cl) V'.heap.size k R t' y' d (V'.alloc (.cells (qaF R) 50))):=(cR _ bwA).mono (by
  rintro e V' ⟨t',y',rfl,h1,h2⟩;exact⟨t',y',rfl,qxq hg h1 h2⟩)
 have HI:=qaa hI;have HT:=qaa hT;have HB6:=qaa hB6;have HB8:=qaa hB8;have HFM:=qaa hfm;have HSZ:=qaa hsz;have HBK:=qaa hbk;have HS0:Hid ((W.alloc (.cells #[.int .i64 0,.int .i64 0,.int .i64 0,.int .i64 0] 50)).heap[L]? = some (.cells (qay g fed cl) 119)):=(Below.heap_alloc W _ _ hL).trans hg;go_enter func53,ntmps53
 go_wp2_with (first
  |(refine qcv 116 (.tmp 16) rfl rfl L 4 rfl g.rc _ (qxf HRC.out HS0.out) underlying116 rfl (qv1 HRC.out) ?_)
  |fail)
 refine cR1.mono ?_;rintro e w' ⟨t',y',rfl,HP⟩;obtain⟨V1,HV1⟩:∃V1,Hid (w'.alloc (.cells (qaF R) 50)=V1):=⟨_,rfl⟩
 obtain⟨N8,HN8⟩:∃N8,Hid (w'.heap.size=N8):=⟨_,rfl⟩
 rw[HV1.out,HN8.out] at HP;have HNW:Hid ((w'.alloc (.cells #[.int .i64 0,.int .i64 0,.int .i64 0,.int .i64 0] 50)).heap[N8]? = some (.cells (qaF (0,0,0,0)) 50)):=by show _=_;rw[←HN8.out];exact qac w' _
 have HSW:Hid ((w'.alloc (.cells #[.int .i64 0,.int .i64 0,.int .i64 0,.int .i64 0] 50)).setRow N8 (qaF R)=V1):=by show _=_;rw[←HN8.out,←HV1.out];exact World.setRow_alloc_new _ _ _ _
 have c1:V1.cell? ⟨L,1,none⟩=some (.int .i64 g.out):=(qab HP.out.gate 1).trans (qe5 _ _ 1 (by omega));by_cases hk:g.out=1∧qkn k d=true
 ·have HR:Hid (poF g.out k d B=.error 13):=qrv hk;have cW:=qfA k V1 t' y' d HP.out.thg hk.2;rw[hk.1] at c1
  go_wp2_with (first
   |(refine wpList_store_row rfl 50 _ _ rfl N8 (qaF R) (congrArg (fun n=>Value.pointer (some ⟨n,0,none⟩)) HN8.out) rfl 50 _ HNW.out (qaS R) rfl (qdV R) ?_;rw[HSW.out])
   |(go_at_call 42;refine cW.mono ?_;rintro e w3 ⟨rfl,hB3⟩;have HP3:=qaa (HP.out.step hB3))
   |(refine wpList_store_row rfl 50 _ _ rfl W.heap.size #[.int .i64 0,.int .i64 0,.int .i64 0,.int .i64 0] rfl rfl 50 _ HP3.out.res qcs rfl qiF ?_))
  refine bodyPost_ret (qdJ results53 _ _ W.heap.size 50 #[.int .i64 0,.int .i64 0,.int .i64 0,.int .i64 0] (0,0) _ rfl (setRow_heap _ _ _ _ _ _ HP3.out.res) underlying50 rfl qcs _ _ rfl rfl) rfl ?_;rw[HR.out];exact⟨none,0,0,rfl,HP3.out.fr.set (Nat.le_refl _) _,rfl⟩
 have HPF:=qaa hk;have HLN:=qaa (Nat.le_trans (qpv g.out HP.out.thg) HSZ.out);have cW:=qqW g.out k V1 t' y' d HFM.out HP.out.thg HSZ.out (fun U hU=>HT.out U (HP.out.fr.trans (Frx.of_below hU))) hk;obtain⟨ys,HY⟩:∃ys,Hid (wrO g.out k d=ys):=⟨_,rfl⟩
 rw[HY.out] at HLN cW;obtain⟨fr,HFR⟩:∃fr,Hid (qiC g.out ys B=fr):=⟨_,rfl⟩
 go_wp2_with (first
  |(refine wpList_store_row rfl 50 _ _ rfl N8 (qaF R) (congrArg (fun n=>Value.pointer (some ⟨n,0,none⟩)) HN8.out) rfl 50 _ HNW.out (qaS R) rfl (qdV R) ?_;rw[HSW.out])
  |(go_at_call 42;refine cW.mono ?_;rintro e w3 ⟨v3,rfl,hO3,hB3⟩;obtain⟨a3,n3,k3,rfl⟩:=hO3.2.2;have HB3:=qaa hB3;have HO3:=qaa hO3))
 have HB4:Hid (Below V1.heap.size V1 ({w3 with drawn:=w3.drawn+1}:World)):=HB3.out.drew;have HO4:Hid (Own ({w3 with drawn:=w3.drawn+1}:World) V1.heap.size (.slice a3 n3 k3) ys):=HO3.out;have HP3:=qaa (HP.out.step HB4.out);refine rgn (S:=fun Z=>Z.cell? ⟨L,1,none⟩=some (.int .i64 g.out)∧Z.cell? ⟨L,44,none⟩=some (.slice ba B.length bc)) (⟨(qab HP3.out.gate 1).trans (qe5 _ _ 1 (by omega)),((qab HP3.out.gate 44).trans (qbO HRC.out _ _ 0)).trans (congrArg some HBK.out)⟩) (by kernel_rfl) ?_;intro hS;generalize ({w3 with drawn:=w3.drawn+1}:World)=w5 at *;have cF:=qqQ w5 V1.heap.size g.out (.slice a3 n3 k3) ys ba bc B HO4.out (HI.out w5 HP3.out.fr) HB8.out HB6.out HLN.out;rw[HFR.out] at cF;refine tkH 0 36 (.pointer (some ⟨L,0,none⟩)) rfl (by kernel_rfl) (fun _ _ _ h=>h) (fun Z hZ=>by kernel_rfl) hS ?_;refine tkH 1 37 (.pointer (some ⟨L,0,none⟩)) rfl (by kernel_rfl) (fun _ _ _ h=>h) (fun Z hZ=>by kernel_rfl) hS ?_;refine tkH 2 38 (.pointer (some ⟨L,1,none⟩)) rfl (by kernel_rfl) (fun _ _ _ h=>h) (fun Z hZ=>by kernel_rfl) hS ?_;refine tkH 3 39 (.int .i64 g.out) rfl (by kernel_rfl) (fun _ _ _ h=>h) (fun Z hZ => ?y3) hS ?_
 case y3=>(have z1:=hZ.1;go_simp)
 refine tkH 4 40 (.slice a3 n3 k3) rfl (by kernel_rfl) (fun _ _ _ h=>h) (fun Z hZ=>by kernel_rfl) hS ?_;refine tkH 5 41 (.pointer (some ⟨L,0,none⟩)) rfl (by kernel_rfl) (fun _ _ _ h=>h) (fun Z hZ=>by kernel_rfl) hS ?_;refine tkH 6 42 (.pointer (some ⟨L,0,none⟩)) rfl (by kernel_rfl) (fun _ _ _ h=>h) (fun Z hZ=>by kernel_rfl) hS ?_;refine tkH 7 43 (.pointer (some ⟨L,44,none⟩)) rfl (by kernel_rfl) (fun _ _ _ h=>h) (fun Z hZ=>by kernel_rfl) hS ?_;refine tkH 8 44 (.slice ba B.length bc) rfl (by kernel_rfl) (fun _ _ _ h=>h) (fun Z hZ => ?y8) hS ?_
 case y8=>(have z1:=hZ.2;go_simp)
 refine rdS 9 rfl (by kernel_rfl) (fun K hK => ?_);go_simp;refine cF.mono ?_;rintro e w4 ⟨⟨v4,rfl,h41,h42⟩,hB4⟩;have HP4:=qaa (HP.out.step (HB4.out.trans hB4));have HZ4:=qaa HP.out.fr.rows.size;have hS4:(fun Z:World=>Z.cell? ⟨L,1,none⟩=some (.int .i64 g.out)∧Z.cell? ⟨L,44,none⟩=some (.slice ba B.length bc)) w4:=⟨(qab HP4.out.gate 1).trans (qe5 _ _ 1 (by omega)),((qab HP4.out.gate 44).trans (qbO HRC.out _ _ 0)).trans (congrArg some HBK.out)⟩
 simp only[];refine hK.out _ _ hS4 (fun _ => ?_);refine tkH 10 35 (.tuple #[v4,.bool fr.isSome]) rfl (by kernel_rfl) (fun _ _ _ h=>h) (fun Z hZ=>by kernel_rfl) hS4 ?_;refine tkH 11 46 v4 rfl (by kernel_rfl) (fun _ _ _ h=>h) (fun Z hZ=>by kernel_rfl) hS4 ?_;refine tkH 12 47 (.bool fr.isSome) rfl (by kernel_rfl) (fun _ _ _ h=>h) (fun Z hZ=>by kernel_rfl) hS4 ?_;refine tkH 13 11 v4 rfl (by kernel_rfl) (fun _ _ _ h=>h) (fun Z hZ=>by kernel_rfl) hS4 ?_;refine tkH 14 12 (.bool fr.isSome) rfl (by kernel_rfl) (fun _ _ _ h=>h) (fun Z hZ=>by kernel_rfl) hS4 ?_;refine wpAnyH_done (by kernel_rfl) ?_ _;go_simp
 cases fr with
 |none =>
  have HR:=qaa (qsg HPF.out (by rw[HY.out];exact HFR.out));obtain rfl:=h41 rfl;simp only[Option.isSome_none]
  go_wp2_with (first
   |(refine wpList_store_row rfl 50 _ _ rfl W.heap.size #[.int .i64 0,.int .i64 0,.int .i64 0,.int .i64 0] rfl rfl 50 _ HP4.out.res qcs rfl qiF ?_))
  refine bodyPost_ret (qdJ results53 _ _ W.heap.size 50 #[.int .i64 0,.int .i64 0,.int .i64 0,.int .i64 0] (0,0) _ rfl (setRow_heap _ _ _ _ _ _ HP4.out.res) underlying50 rfl qcs _ _ rfl rfl) rfl ?_;rw[HR.out];exact⟨none,0,0,rfl,HP4.out.fr.set (Nat.le_refl _) _,rfl⟩
 |some l =>
  have HR:=qaa (qr8 HPF.out (by rw[HY.out];exact HFR.out));have HO4:=qaa (h42 l rfl);obtain⟨a4,n4,k4,rfl⟩:=HO4.out.2.2;simp only[Option.isSome_some]
  go_wp2_with fail
  refine rgn (S:=fun Z=>Z.heap[N8]? = some (.cells (qaF R) 50)) (HP4.out.rep) (by kernel_rfl) ?_;intro hS5;have HP5:=qaa HP4.out.fr.drew;have HQ5:Hid (({w4 with drawn:=w4.drawn+1}:World).heap[W.heap.size]? = some (.cells (qaF (0,0,0,0)) 50)):=HP4.out.res;have HO5:Hid (Own {w4 with drawn:=w4.drawn+1} W.heap.size (.slice a4 n4 k4) l):=(HO4.out).mono HZ4.out;have hlt:=HP4.out.lt;generalize ({w4 with drawn:=w4.drawn+1}:World)=w6 at *;refine tkH 0 51 (.slice a4 n4 k4) rfl (by kernel_rfl) (fun _ _ _ h=>h) (fun Z hZ=>by kernel_rfl) hS5 ?_;refine tkH 1 52 (.agg (qaF R)) rfl (by kernel_rfl) (fun _ _ _ h=>h) (fun Z hZ => ?y1) hS5 ?_
  case y1=>exact qix 50 (.tmp 8) (by kernel_rfl) N8 (congrArg (fun n=>Value.pointer (some ⟨n,0,none⟩)) HN8.out) _ _ _ _ hZ underlying50 (by kernel_rfl) (qaS R)
  refine tkH 2 4 (.slice a4 n4 k4) rfl (by kernel_rfl) (fun _ _ _ h=>h) (fun Z hZ=>by kernel_rfl) hS5 ?_;refine rdS 3 rfl (by kernel_rfl) (fun K hK => ?_);refine ifw (by kernel_rfl) ?_;refine wp_store_row 50 (.tmp 5) (.tmp 52) rfl W.heap.size (qaF R) (by kernel_rfl) (by kernel_rfl) 50 (qaF (0,0,0,0)) HQ5.out (qaS R) (qvx _ _) (qdV R) ?_;have hS6:(fun Z:World=>Z.heap[N8]? = some (.cells (qaF R) 50)) (w6.setRow W.heap.size (qaF R)):=sx (by omega) hS5;refine hK.out _ _ hS6 (fun _ => ?_);refine tkH 4 6 (.int .i64 0) rfl (by kernel_rfl) (fun _ _ _ h=>h) (fun Z hZ=>by kernel_rfl) hS6 ?_;refine wpAnyH_done (by kernel_rfl) ?_ _;go_simp
  go_wp2_with fail
  refine bodyPost_ret (qdJ results53 _ _ W.heap.size 50 (qaF R) (0,0) _ rfl (setRow_heap _ _ _ _ _ _ HQ5.out) underlying50 rfl (qaS R) _ _ rfl rfl) rfl ?_;rw[HR.out];exact⟨a4,n4,k4,rfl,HP5.out.set (Nat.le_refl _) _,qgZ HO5.out HQ5.out⟩
def gtZ:Gt:=⟨0,0,0,0,qan 0 (fun _ _=>false)++#[.int .i64 0,.int .i64 0,.pointer none],.slice none 0 0⟩
theorem qki:gtZ.rc.size=40:=by kernel_rfl
theorem qcC (hrc:g.rc.size=40)(fed:Value)(cl:Bool):(qay g fed cl).size=47:=by unfold qay;simp[hrc]
theorem qkM (ρ:Operand→Value)(o:Oper)(ho:o.op=.alloc 119)(w:World):(execOp ρ o).run prog w=.ok (.value (.pointer (some ⟨w.heap.size,0,none⟩))) (w.alloc (.cells (qay gtZ (.slice none 0 0) false) 119)):=by
 unfold execOp;rw[ho];kernel_rfl
theorem qdC {ops:Array Oper}{rest:List Oper}{o:Oper}{a:Act}{w:World}{Q:Exit→Act→World→Prop}(hg:o.guard=none)(ho:o.op=.alloc 119)(d:Option Tmp)(hd:o.dst=d)(N:Nat)(hN:w.heap.size=N)(h:wpList prog ops Q rest (a.put d (.pointer (some ⟨N,0,none⟩))) (w.alloc (.cells (qay gtZ (.slice none 0 0) false) 119))):wpList prog ops Q (o::rest) a w:=by
 subst hN;exact Great.wpList_allocTo hg d hd _ _ (qkM _ _ ho _) h
theorem qpB:prog.built 119 [(6,.bool true)]=some (qay gtZ (.slice none 0 0) true):=by kernel_rfl
theorem qhr {A:Array Value}(h:A.size=47):(prog.info? 119).map (·.size)=some A.size:=by rw[h];kernel_rfl
abbrev Cz:=Except (Int×Int) (Rep×Except Int (List UInt8))
def czR (z:Cz):Rep:=match z with
 |.ok (R,r)=>poR R r
 |.error _=>(0,0,0,0)
def czE (z:Cz):Int:=match z with
 |.ok (_,r)=>poE r
 |.error (en,_)=>en
def czP (z:Cz):Int:=match z with
 |.ok _=>0
 |.error (_,pl)=>pl
def CzV (V:World)(base:Nat)(v:Value)(z:Cz):Prop:=match z with
 |.ok (_,r)=>PoV V base v r
 |.error _=>v=.slice none 0 0
def clW (W:World)(L:Nat)(g:Gt)(fv:Value):World:=((W.alloc (.cells #[.int .i64 0,.int .i64 0,.int .i64 0,.int .i64 0] 50)).alloc (.cells (qay g fv false) 119)).setRow L (qay gtZ (.slice none 0 0) true)
structure Fry (X:Nat→Prop)(L:Nat)(W V:World):Prop where
 world:V.os=W.os∧V.tape=W.tape∧V.output=W.output
 size:W.heap.size≤V.heap.size
 rows:∀(k:Nat) (cs:Array Value) (t:TypeId) (fr:Nat×Nat),k≠L→W.heap[k]? = some (.cells cs t fr)→t≠168→t≠240→t≠243→V.heap[k]? = some (.cells cs t fr)
 block:∀j,j<W.heap.size→j≠L→X j→V.heap[j]? = W.heap[j]?
theorem Fry.set (h:Fry X L W V){g:Nat}(hg:W.heap.size≤g)(cs:Array Value):Fry X L W (V.setRow g cs) :=
 ⟨h.world,by have:=h.size;simpa using this,fun k cs t fr a b c d e=>(setRow_other _ _ _ _ (by have:=ltA b;omega)).trans (h.rows k cs t fr a b c d e),fun j a b c=>sx (by omega) (h.block j a b c)⟩
def qwk (X:Nat→Prop)(W:World)(L:Nat)(z:Cz)(e:Ending)(V':World):Prop :=
 ∃va vn vc,e=.returned (.tuple #[.slice va vn vc,.agg (qaF (czR z)),.int .i64 (czE z),.int .i64 (czP z)])∧Fry X L W V'∧V'.heap[L]? = some (.cells (qay gtZ (.slice none 0 0) true) 119)∧CzV V' W.heap.size (.slice va vn vc) z
theorem qft (W:World)(L:Nat)(g:Gt)(fv:Value):(clW W L g fv).heap.size=W.heap.size+2:=by simp[clW]
theorem quk (W:World)(L:Nat)(g:Gt)(fv:Value)(hL:L<W.heap.size):(clW W L g fv).heap[W.heap.size]? = some (.cells (qaF (0,0,0,0)) 50):=sx (by omega) ((Below.heap_alloc _ _ _ (by simp)).trans (qac W _))
theorem ql2 (W:World)(L:Nat)(g:Gt)(fv:Value)(hL:L<W.heap.size):(clW W L g fv).heap[W.heap.size+1]? = some (.cells (qay g fv false) 119):=by
 have h:=qac (W.alloc (.cells #[.int .i64 0,.int .i64 0,.int .i64 0,.int .i64 0] 50)) (.cells (qay g fv false) 119);rw[World.size_alloc] at h;exact sx (by omega) h
theorem qq8 (W:World)(L:Nat)(g:Gt)(fv:Value)(hg:W.heap[L]? = some (.cells (qay g fv false) 119)):(clW W L g fv).heap[L]? = some (.cells (qay gtZ (.slice none 0 0) true) 119):=by
 have hL:=ltA hg;exact setRow_heap _ _ _ _ _ _ ((Below.heap_alloc _ _ _ (by rw[World.size_alloc];omega)).trans ((Below.heap_alloc _ _ _ hL).trans hg))
theorem qgj (W:World)(L:Nat)(g:Gt)(fv:Value)(j:Nat)(hj:j<W.heap.size)(hn:j≠L):(clW W L g fv).heap[j]? = W.heap[j]?:=(setRow_other _ _ _ _ hn).trans ((Below.heap_alloc _ _ _ (by rw[World.size_alloc];omega)).trans (Below.heap_alloc _ _ _ hj))
theorem qpV (W:World)(L:Nat)(g:Gt)(fv:Value):(clW W L g fv).os=W.os∧(clW W L g fv).tape=W.tape∧(clW W L g fv).output=W.output:=⟨rfl,rfl,rfl⟩
theorem Fry.of {fv:Value}(h:Frx X (clW W L g fv) V):Fry X L W V:=by
 have hs:=h.rows.size;rw[qft] at hs;refine⟨h.world,by omega,fun k cs t fr a b c d e => ?_,fun j a b c => ?_⟩
 ·have hk:=ltA b;exact h.rows.row k cs t fr ((qgj W L g fv k hk a).trans b) c d e
 exact(h.block j (by rw[qft];omega) c).trans (qgj W L g fv j a b)
structure qx2 (X:Nat→Prop)(W W3:World)(L N11:Nat)(R:Rep)(v:Value)(r:Except Int (List UInt8))(V:World):Prop where
 fr:Frx X W3 V
 res:V.heap[W.heap.size]? = some (.cells (qaF (0,0,0,0)) 50)
 rep:V.heap[N11]? = some (.cells (qaF R) 50)
 lt:W.heap.size<N11
 gate:V.heap[L]? = some (.cells (qay gtZ (.slice none 0 0) true) 119)
 val:PoV V W.heap.size v r
theorem PoV.same {b':Nat}(h:PoV V b v r)(hk:∀l,Own V b v l→Own V' b' v l):PoV V' b' v r:=by
 cases r with
 |ok l=>exact hk l h
 |error e=>exact h
theorem qwR {W3:World}(hs:W.heap.size<U.heap.size)(h3:Frx X W3 U)(hF:Frx X U V')(hres:U.heap[W.heap.size]? = some (.cells (qaF (0,0,0,0)) 50))(hgt:U.heap[L]? = some (.cells (qay gtZ (.slice none 0 0) true) 119))(hv:PoV V' U.heap.size v r):qx2 X W W3 L V'.heap.size R v r (V'.alloc (.cells (qaF R) 50)):=by
 have hs2:=hF.rows.size;exact⟨(h3.trans hF).alloc _,(Below.heap_alloc _ _ _ (by omega)).trans (hF.rows.row _ _ _ _ hres (by decide) (by decide) (by decide)),qac V' _,by omega,(Below.heap_alloc _ _ _ (by have:=ltA hgt;omega)).trans (hF.rows.row _ _ _ _ hgt (by decide) (by decide) (by decide)),hv.same fun l h=>qgt (h.mono (by omega)) bwA⟩
structure qnq (c:Cfg):Prop where
 lab:1≤c.labels∧c.labels≤6
 dfl:0≤c.dflt∧c.dflt<(c.labels.toNat:Int)
 clr:0≤c.clr∧c.clr<(c.labels.toNat:Int)
 inn:c.inn=1∨c.inn=2∨c.inn=3
 out:c.out=1∨c.out=2∨c.out=3
 dep:1≤c.depth∧c.depth≤16
 byt:1≤c.bytes∧c.bytes≤4096
 b8:c.B.length≤8
 b6:∀i (h:i<c.B.length),c.B[i]≤65536
 pol:qez c.labels.toNat c.pol.data.toList=0
theorem qs9 {f:Int}(h:qfm f=true):f=1∨f=2∨f=3:=by
 unfold qfm at h;simp only[Bool.or_eq_true,beq_iff_eq] at h;omega
theorem qqt (h:qbw c=0):qnq c:=by
 have hp:=qoa h;rw[←(qk2 c).1] at h;unfold qhk at h;split at h
 ·next hh=>exact absurd h hh
 next hh =>
 have hr:roE c.labels c.L c.dflt c.clr=0:=Classical.byContradiction hh;split at h
 ·cases h
 next hl =>
 split at h
 ·cases h
 next hb =>
 have hl:qf4 c.inn c.out c.depth c.bytes=true:=by simpa using hl
 have hb:qaG c.B=true:=by simpa using hb
 unfold roE at hr;split at hr
 ·next hn =>
  simp only[Bool.and_eq_true] at hn;obtain⟨⟨h1,h2⟩,h3⟩:=hn;unfold qbx at h1;rw[Bool.and_eq_true] at h1;have h1:=of_decide_eq_true h1.1;have h2:=of_decide_eq_true h2;have h3:=of_decide_eq_true h3;unfold qf4 at hl;simp only[Bool.and_eq_true,decide_eq_true_eq] at hl;unfold qaG at hb;rw[Bool.and_eq_true] at hb;refine⟨⟨h1.1,h1.2.1⟩,h2,h3,qs9 hl.1.1.1.1.1,qs9 hl.1.1.1.1.2,⟨hl.1.1.1.2,hl.1.1.2⟩,⟨hl.1.2,hl.2⟩,of_decide_eq_true hb.1,fun i hi => ?_,hp⟩;have:=of_decide_eq_true (List.all_eq_true.1 hb.2 i (List.mem_range.2 hi));rw[List.getD_eq_getElem?_getD,List.getElem?_eq_getElem hi] at this;exact this.2
 cases hr
theorem quj {n:Nat}(h:qez n l=0):∀x∈(qcA l).map enS,∃m:Nat,x.2.1=(m:Int)∧m<n:=by
 have hv:qa3 n l<0:=by
  unfold qez at h;split at h
  ·cases h
  omega
 intro x hx;obtain⟨r,hr,rfl⟩:=List.mem_map.1 hx;unfold qa3 at hv;unfold qcA at hr;split at hv
 ·omega
 split at hv
 ·next h0 =>
  rw[if_pos h0] at hr;cases hr
 next h0 =>
 rw[if_neg h0] at hr;obtain⟨h1,_⟩:=qpw (qal 10 l) 0 hv (by omega);obtain⟨y,hy,rfl⟩:=List.mem_map.1 hr;have hb:=h1 y hy;unfold qa9 at hb;show ∃m:Nat,(qdE y).2.1=(m:Int)∧m<n;unfold qdE
 match hs:qal 32 y,hb with
 |[a,b,c],hb =>
  unfold qiX at hb;simp only[Bool.and_eq_true] at hb;have hb:=hb.2.1
  match b,hb with
  |[d],hb =>
   unfold qh5 at hb;rw[Bool.and_eq_true] at hb;have h3:=of_decide_eq_true hb.1;have h4:=of_decide_eq_true hb.2;refine⟨d.toNat-48,?_,by omega⟩;show(if 48≤d.toNat∧d.toNat≤57 then (d.toNat:Int)-48 else 0)=_;rw[if_pos h3];omega
structure qko (b:Nat)(W:World):Prop where
 rd:qeK W
 st:qiG b W
 db:W.cell? ⟨8,15,none⟩=some (.int .u8 4)
 gl:qlZ W
 big:9≤b∧b≤W.heap.size
theorem qbj (hk:∀q,q<9→V.heap[q]? = W.heap[q]?){q off:Nat}(hq:q<9)(h:W.cell? ⟨q,off,none⟩=some v):V.cell? ⟨q,off,none⟩=some v:=(World.cell?_of_block (w:=W) (hk q hq)).trans h
theorem U8.low (hk:∀q,q<9→V.heap[q]? = W.heap[q]?)(h:U8 W):U8 V :=
 ⟨fun c hc'=>qbj hk (by decide) (h.1 c hc'),fun i hi=>⟨qbj hk (by decide) (h.2 i hi).1,qbj hk (by decide) (h.2 i hi).2⟩⟩
theorem qko.below (h:qko b W)(hb:Below b W V):qko b V:=by
 have hk:∀q,q<9→V.heap[q]? = W.heap[q]?:=fun q hq=>hb.block q (by have:=h.big.1;omega);have hs:=hb.size;refine⟨⟨h.rd.u8.low hk,⟨fun u hu=>qbj hk (by decide) (h.rd.hd.cb u hu),fun u hu=>⟨qbj hk (by decide) (h.rd.hd.pk u hu).1,qbj hk (by decide) (h.rd.hd.pk u hu).2.1,qbj hk (by decide) (h.rd.hd.pk u hu).2.2⟩⟩,?_⟩,h.st.on hb,qbj hk (by decide) h.db,?_,h.big.1,?_⟩
 ·have:=h.rd.big;omega
 ·obtain⟨t,fr,h1⟩:=h.gl.signs;obtain⟨m,h3⟩:=h.gl.mlen;exact⟨⟨t,fr,(hk _ (by decide)).trans h1⟩,U8.low hk h.gl.tabs,m,qbj hk (by decide) h3⟩
 have:=h.big.2;omega
theorem qko.up (h:qko b W)(hb:Below b W V):qiG V.heap.size V:=fun w' hw=>h.st w' (hb.trans (hw.mono (by have:=h.big.2;have:=hb.size;omega)))
def rvC (c:Cfg):Rv:=⟨qlc c,c.dflt,qcF c.labels.toNat c.L,c.clr.toNat,c.key⟩
def kC (c:Cfg):Nat:=c.depth.toNat+1
def rcC (c:Cfg)(A:Nat):Array Value:=qan c.labels.toNat (qcF c.labels.toNat c.L)++#[.int .i64 c.clr,.int .i64 c.key,.pointer (some ⟨A,0,none⟩)]
def gtC (c:Cfg)(A:Nat)(bv:Value):Gt:=⟨c.inn,c.out,c.depth,c.bytes.toNat,rcC c A,bv⟩
theorem qi1 (c:Cfg)(A:Nat):(rcC c A).size=40:=by unfold rcC;rw[Array.size_append,qae];rfl
theorem quf (ck:qnq c)(A:Nat)(bv:Value):quV c A bv=qay (gtC c A bv) (.slice none 0 0) false:=by
 have h:((c.bytes.toNat:Nat):Int)=c.bytes:=Int.toNat_of_nonneg (by have:=ck.byt;omega);unfold quV qay gtC rcC;dsimp only;rw[h]
def Xc (A:Nat)(q:Aut)(own0:Option Nat)(j:Nat):Prop:=j≠A∧j≠q.nb∧j≠q.mb∧some j≠own0
theorem qtE (ck:qnq c)(h:GOp c W0 L A q sts sa sc nf mf bv V)(ht:qko b W0)(hs:W0.heap.size≤U.heap.size)(own0:Option Nat):qkl ⟨rvC c,W0,A,q,U.heap.size+2,qan c.labels.toNat (qcF c.labels.toNat c.L),c.labels.toNat,U,own0⟩:=by
 obtain⟨h1,h2,h3⟩:=qoK ck.pol;refine⟨h.cp.ers,h.cp.edf,h.cp.elf,h.cp.eL,h.cp.ly,h1,h2,h3,qaw _ _,?_,?_,?_,Nat.le_trans hs (Nat.le_add_right _ _),Nat.le_add_right _ _,ht.db⟩
 ·show c.labels.toNat≤6;have:=ck.lab;omega
 ·show c.clr.toNat<c.labels.toNat;have:=ck.clr;omega
 refine qpt ⟨c.dflt.toNat,?_,?_⟩ (qlc c) (quj ck.pol)
 ·show c.dflt=_;have:=ck.dfl;omega
 show c.dflt.toNat<c.labels.toNat;have:=ck.dfl;omega
theorem qsV (ck:qnq c)(h:GOp c W0 L A q sts sa sc nf mf bv V)(ht:qko b W0)(hU:Below V.heap.size V U){t:TypeId}(hd:qai (kC c) V (fun j=>j<V.heap.size) (.iface t y) d)(hsz:szF (kC c) d≤2000000):Calls prog 89 #[.agg (rcC c A),.iface t y] U (qnw (Xc A q (Value.slice sa sts.length sc).ownBlock) V.heap.size (kC c) U (rwF (rvC c) (kC c) [] d (0,0,0,0)).2 ((rwF (rvC c) (kC c) [] d (0,0,0,0)).1.getD .nil)):=by
 have hau:=h.cp.au.next hU
 have hs:=hau.below.size;have ok:=qtE (U:=U) ck h ht hs (Value.slice sa sts.length sc).ownBlock;have hn:=(qoK ck.pol).1;have hst:StF ⟨rvC c,W0,A,q,U.heap.size+2,qan c.labels.toNat (qcF c.labels.toNat c.L),c.labels.toNat,U,(Value.slice sa sts.length sc).ownBlock⟩ sts 0 []:=by
  obtain⟨x,Y,k1,k2,k3⟩:=h.cp.first
  exact⟨x,k1,qsv (qpa h.cp.ly k2) hn k3⟩
 have hnd:=qkK (kC c) d;have hcb:=qjz (kC c) d;have hr:=qqe ⟨rvC c,W0,A,q,U.heap.size+2,qan c.labels.toNat (qcF c.labels.toNat c.L),c.labels.toNat,U,(Value.slice sa sts.length sc).ownBlock⟩ ok rfl U rfl rfl (kC c) (fun j=>j<V.heap.size) (.iface t y) d 0 sts sa sc nf 0 mf hau h.cp.mv (Nat.le_refl _) h.cp.few rfl hst (fun j hj=>Nat.lt_of_lt_of_le hj hU.size) (hd.same (fun _ hj=>hj) (fun j hj=>hU.block j hj)) (by omega) (by omega);have e1:qhl ⟨rvC c,W0,A,q,U.heap.size+2,qan c.labels.toNat (qcF c.labels.toNat c.L),c.labels.toNat,U,(Value.slice sa sts.length sc).ownBlock⟩=rcC c A:=by
  have e2:=Int.toNat_of_nonneg ck.clr.1;unfold qhl rcC rvC;dsimp only;rw[e2]
 rw[e1] at hr;refine hr.mono ?_;rintro e V' ⟨t',y',rfl,k1,k2,k3,k4⟩;refine⟨t',y',rfl,⟨⟨k2.os.trans hau.below.os.symm,k2.tape.trans hau.below.tape.symm,k2.output.trans hau.below.output.symm⟩,k1,fun j a b=>k3 j a b.1 b.2.1 b.2.2.1 b.2.2.2⟩,k4⟩
theorem qqv {F:Nat→Prop}{ba:Option Addr}{bc:Nat}(h:qb1 W 3 1 F (.slice ba B.length bc) B.length (B.map (Value.int .i64))):qbV W ba B:=by
 refine⟨fun i hi => ?_⟩;rcases h.2 with ⟨_,h0⟩|⟨g,cap,cur,e,_,hg,h1,h2,h3,h4⟩
 ·omega
 injection e with e1 _ _;refine⟨g,0,e1,(ltA hg),fun j hj => ?_⟩;rw[Nat.zero_add];refine(qab hg j).trans ?_;have hx:(cur.toList.take (B.length*1))[j]? = (B.map (Value.int .i64))[j]?:=by rw[h4]
 rw[List.getElem?_take_of_lt (by omega),List.getElem?_map,List.getElem?_eq_getElem hj] at hx;simpa using hx
def clO (c:Cfg)(l:List UInt8):Cz:=match qgE c.inn l c.depth c.bytes with
 |.error e=>.error e
 |.ok d=>.ok ((rwF (rvC c) (kC c) [] d (0,0,0,0)).2,poF c.out (kC c) ((rwF (rvC c) (kC c) [] d (0,0,0,0)).1.getD .nil) c.B)
theorem qnd (X:Nat→Prop)(k:Nat)(W:World)(L:Nat)(g:Gt)(hrc:g.rc.size=40)(fa:Option Addr)(fn fc:Nat)(hone:(qay g (.slice fa fn fc) false).all (·.oneCell')=true)(hg:W.heap[L]? = some (.cells (qay g (.slice fa fn fc) false) 119))(r:Except (Int×Int) (DataW Unit))(hbad:∀en pl,r=.error (en,pl)→en≠0)(z:Cz)(cD:∀U,Below (clW W L g (.slice fa fn fc)).heap.size (clW W L g (.slice fa fn fc)) U→Calls prog 41 #[.int .i64 g.inF,.agg #[.int .i64 g.depth,.int .i64 g.bytes],.slice fa fn fc] U (qg6 k U r))(hz:∀e,r=.error e→z=.error e)(cP:∀d,r=.ok d→∃R po,z=.ok (R,po)∧∀V t y,Below (clW W L g (.slice fa fn fc)).heap.size (clW W L g (.slice fa fn fc)) V→qai k V (fun j=>(clW W L g (.slice fa fn fc)).heap.size≤j∧j<V.heap.size) (.iface t y) d→∀U,Below V.heap.size V U→Calls prog 53 #[.pointer (some ⟨W.heap.size+1,0,none⟩),.iface t y] U (qlJ X U R po)):Calls prog 33 #[.pointer (some ⟨L,0,none⟩)] W (qwk X W L z):=by
 have hL:=ltA hg;have c46:(W.alloc (.cells #[.int .i64 0,.int .i64 0,.int .i64 0,.int .i64 0] 50)).cell? ⟨L,46,none⟩=some (.bool false):=(qab ((Below.heap_alloc _ _ _ hL).trans hg) 46).trans (qbO hrc _ _ 2);have HG1:Hid ((W.alloc (.cells #[.int .i64 0,.int .i64 0,.int .i64 0,.int .i64 0] 50)).heap[L]? = some (.cells (qay g (.slice fa fn fc) false) 119)):=(Below.heap_alloc _ _ _ hL).trans hg;have HG2:Hid (((W.alloc (.cells #[.int .i64 0,.int .i64 0,.int .i64 0,.int .i64 0] 50)).alloc (.cells (qay g (.slice fa fn fc) false) 119)).heap[L]? = some (.cells (qay g (.slice fa fn fc) false) 119)):=(Below.heap_alloc _ _ _ (by rw[World.size_alloc];omega)).trans HG1.out;have HN1:Hid (((W.alloc (.cells #[.int .i64 0,.int .i64 0,.int .i64 0,.int .i64 0] 50)).alloc (.cells (qay gtZ (.slice none 0 0) false) 119)).heap[W.heap.size+1]? = some (.cells (qay gtZ (.slice none 0 0) false) 119)):=by
  have h:=qac (W.alloc (.cells #[.int .i64 0,.int .i64 0,.int .i64 0,.int .i64 0] 50)) (.cells (qay gtZ (.slice none 0 0) false) 119);rw[World.size_alloc] at h;exact h
 have HSR:Hid (((W.alloc (.cells #[.int .i64 0,.int .i64 0,.int .i64 0,.int .i64 0] 50)).alloc (.cells (qay gtZ (.slice none 0 0) false) 119)).setRow (W.heap.size+1) (qay g (.slice fa fn fc) false)=(W.alloc (.cells #[.int .i64 0,.int .i64 0,.int .i64 0,.int .i64 0] 50)).alloc (.cells (qay g (.slice fa fn fc) false) 119)):=by
  have h:=World.setRow_alloc_new (W.alloc (.cells #[.int .i64 0,.int .i64 0,.int .i64 0,.int .i64 0] 50)) (qay gtZ (.slice none 0 0) false) (qay g (.slice fa fn fc) false) 119;rw[World.size_alloc] at h;exact h
 have HS1:Hid ((qay g (.slice fa fn fc) false).size=47):=qcC hrc _ _;have HS2:Hid ((qay gtZ (.slice none 0 0) true).size=47):=qcC qki _ _;have HS3:Hid ((qay gtZ (.slice none 0 0) false).size=(qay g (.slice fa fn fc) false).size):=by show _=_;rw[qcC hrc,qcC qki]
 have HS4:Hid ((qay g (.slice fa fn fc) false).size=(qay gtZ (.slice none 0 0) true).size):=by show _=_;rw[qcC hrc,qcC qki]
 have HO1:Hid ((qay g (.slice fa fn fc) false).all (·.oneCell')=true):=hone;have HO2:Hid ((qay gtZ (.slice none 0 0) true).all (·.oneCell')=true):=by show _=_;kernel_rfl
 have HW3:Hid (clW W L g (.slice fa fn fc)=((W.alloc (.cells #[.int .i64 0,.int .i64 0,.int .i64 0,.int .i64 0] 50)).alloc (.cells (qay g (.slice fa fn fc) false) 119)).setRow L (qay gtZ (.slice none 0 0) true)):=rfl;have HQ1:Hid ((clW W L g (.slice fa fn fc)).heap[W.heap.size]? = some (.cells (qaF (0,0,0,0)) 50)):=quk W L g _ hL;have HQ2:Hid ((clW W L g (.slice fa fn fc)).heap[L]? = some (.cells (qay gtZ (.slice none 0 0) true) 119)):=qq8 W L g _ hg;have HQ3:Hid ((clW W L g (.slice fa fn fc)).heap.size=W.heap.size+2):=qft W L g _;have cR:=qlu k (clW W L g (.slice fa fn fc)) (W.heap.size+1) g hrc fa fn fc false r (ql2 W L g _ hL) cD;have HP:Hid (∀d,r=.ok d→∃R po,z=.ok (R,po)∧∀V t y,Below (clW W L g (.slice fa fn fc)).heap.size (clW W L g (.slice fa fn fc)) V→qai k V (fun j=>(clW W L g (.slice fa fn fc)).heap.size≤j∧j<V.heap.size) (.iface t y) d→∀U,Below V.heap.size V U→Calls prog 53 #[.pointer (some ⟨W.heap.size+1,0,none⟩),.iface t y] U (qlJ X U R po)):=cP;clear hg hrc cD cP hone;have HBZ:Hid (prog.built 119 [(6,.bool true)]=some (qay gtZ (.slice none 0 0) true)):=qpB;obtain⟨W3,HW4⟩:∃W3,Hid (clW W L g (.slice fa fn fc)=W3):=⟨_,rfl⟩
 have HFY:Hid (∀V,Frx X (clW W L g (.slice fa fn fc)) V→Fry X L W V):=fun V h=>Fry.of h;rw[HW4.out] at HW3 HQ1 HQ2 HQ3 cR HP HFY;clear HW4;have hLS:L≠W.heap.size:=by omega
 obtain⟨GA,HGA⟩:∃GA,Hid (qay g (.slice fa fn fc) false=GA):=⟨_,rfl⟩
 obtain⟨GZ,HGZ⟩:∃GZ,Hid (qay gtZ (.slice none 0 0) true=GZ):=⟨_,rfl⟩
 rw[HGA.out] at HG1 HG2 HSR HS1 HS3 HS4 HO1 HW3;rw[HGZ.out] at HW3 HQ2 HS2 HS4 HO2 HBZ;rcases r with ⟨en,pl⟩|d
 ·obtain rfl:=hz _ rfl;have hne:=hbad en pl rfl;have e1:(en==0)=false:=by simpa using hne
  have e2:(en != 0)=true:=by simpa using hne
  clear hz hbad HP;go_enter func33,ntmps33
  go_wp2_with (first
   |(refine wpList_load_row rfl 119 _ rfl L rfl _ _ _ _ HG1.out underlying119 rfl (qhr HS1.out) ?_)
   |(refine qdC rfl rfl _ rfl (W.heap.size+1) ?hN ?_;case hN=>(simp only[World.size_alloc];done))
   |(refine wpList_store_row rfl 119 _ _ rfl (W.heap.size+1) GA rfl rfl 119 _ HN1.out (qhr HS1.out) HS3.out HO1.out ?_;rw[HSR.out];clear HN1 HSR)
   |(refine qak rfl 119 _ rfl _ rfl _ [(6,.bool true)] ?hl HBZ.out ?_;case hl=>simp[go_sem])
   |(refine wpList_store_row rfl 119 _ _ rfl L GZ rfl rfl 119 _ HG2.out (qhr HS2.out) HS4.out HO2.out ?_;rw[←HW3.out];clear c46 HG1 HG2 HS3 HS4 HW3)
   |(go_at_call 52;refine cR.mono ?_;clear cR;rintro e w4 ⟨hB4,hF⟩;obtain rfl:=hF;have HF4:Hid (Frx X W3 w4):=Frx.of_below hB4;have HR4:Hid (w4.heap[W.heap.size]? = some (.cells (qaF (0,0,0,0)) 50)):=(hB4.block _ (ltA HQ1.out)).trans HQ1.out;have HG4:Hid (w4.heap[L]? = some (.cells GZ 119)):=(hB4.block _ (ltA HQ2.out)).trans HQ2.out;clear hB4 HQ1 HQ2)
   |(refine wpList_store_row rfl 50 _ _ rfl W.heap.size #[.int .i64 0,.int .i64 0,.int .i64 0,.int .i64 0] rfl rfl 50 _ HR4.out qcs rfl qiF ?_))
  refine bodyPost_ret (qds results33 _ _ W.heap.size 50 #[.int .i64 0,.int .i64 0,.int .i64 0,.int .i64 0] (0,0) _ rfl (setRow_heap _ _ _ _ _ _ HR4.out) underlying50 rfl qcs _ _ _ rfl rfl rfl) rfl ?_;exact⟨none,0,0,rfl,(HFY.out _ HF4.out).set (Nat.le_refl _) _,by rw[HGZ.out];exact(setRow_other _ _ _ _ hLS).trans HG4.out,rfl⟩
 obtain⟨R,po,rfl,hPo⟩:=HP.out d rfl;have HPO:Hid (∀V t y,Below W3.heap.size W3 V→qai k V (fun j=>W3.heap.size≤j∧j<V.heap.size) (.iface t y) d→∀U,Below V.heap.size V U→Calls prog 53 #[.pointer (some ⟨W.heap.size+1,0,none⟩),.iface t y] U (qlJ X U R po)):=hPo;clear hz hbad HP hPo;obtain⟨R1,HR1⟩:∃R1,Hid (poR R po=R1):=⟨_,rfl⟩
 obtain⟨E1,HE1⟩:∃E1,Hid (poE po=E1):=⟨_,rfl⟩
 go_enter func33,ntmps33
 go_wp2_with (first
  |(refine wpList_load_row rfl 119 _ rfl L rfl _ _ _ _ HG1.out underlying119 rfl (qhr HS1.out) ?_)
  |(refine qdC rfl rfl _ rfl (W.heap.size+1) ?hN ?_;case hN=>(simp only[World.size_alloc];done))
  |(refine wpList_store_row rfl 119 _ _ rfl (W.heap.size+1) GA rfl rfl 119 _ HN1.out (qhr HS1.out) HS3.out HO1.out ?_;rw[HSR.out];clear HN1 HSR)
  |(refine qak rfl 119 _ rfl _ rfl _ [(6,.bool true)] ?hl HBZ.out ?_;case hl=>simp[go_sem])
  |(refine wpList_store_row rfl 119 _ _ rfl L GZ rfl rfl 119 _ HG2.out (qhr HS2.out) HS4.out HO2.out ?_;rw[←HW3.out];clear c46 HG1 HG2 HS3 HS4 HW3)
  |(go_at_call 52;refine cR.mono ?_;clear cR;rintro e w4 ⟨hB4,hF⟩;obtain⟨t,y,rfl,hT⟩:=hF;have cP:=HPO.out w4 t y hB4 hT w4 bwR;have HF4:Hid (Frx X W3 w4):=Frx.of_below hB4;have HR4:Hid (w4.heap[W.heap.size]? = some (.cells (qaF (0,0,0,0)) 50)):=(hB4.block _ (ltA HQ1.out)).trans HQ1.out;have HG4:Hid (w4.heap[L]? = some (.cells GZ 119)):=(hB4.block _ (ltA HQ2.out)).trans HQ2.out;have HS5:Hid (W.heap.size<w4.heap.size):=by {have h:=hB4.size;have h2:=HQ3.out;show _<_;omega};clear hB4 HQ1 HQ2 HPO hT)
  |(go_at_call 53;refine cP.mono ?_;clear cP;rintro e w5 ⟨va,vn,vc,rfl,hF5,hV5⟩;have HC5:Hid (qx2 X W W3 L w5.heap.size R1 (.slice va vn vc) po (w5.alloc (.cells (qaF R1) 50))):=qwR HS5.out HF4.out hF5 HR4.out (by rw[HGZ.out];exact HG4.out) hV5;clear hF5 hV5 HF4 HR4 HG4 HS5;rw[HR1.out,HE1.out])
  |(refine wpList_store_row rfl 50 _ _ rfl w5.heap.size (qaF R1) rfl rfl 50 _ (qac w5 _) (qaS R1) rfl (qdV R1) ?_;rw[World.setRow_alloc_new]))
 have hS5:(fun Z:World=>Z.heap[w5.heap.size]? = some (.cells (qaF R1) 50)) { (w5.alloc (.cells (qaF R1) 50)) with drawn:=(w5.alloc (.cells (qaF R1) 50)).drawn+1}:=HC5.out.rep;refine wp_region_held (S:=fun Z=>Z.heap[w5.heap.size]? = some (.cells (qaF R1) 50)) (by kernel_rfl) ?_;have HP5:Hid (Frx X W3 { (w5.alloc (.cells (qaF R1) 50)) with drawn:=(w5.alloc (.cells (qaF R1) 50)).drawn+1}):=HC5.out.fr.drew;have HQ5:Hid (({ (w5.alloc (.cells (qaF R1) 50)) with drawn:=(w5.alloc (.cells (qaF R1) 50)).drawn+1}:World).heap[W.heap.size]? = some (.cells (qaF (0,0,0,0)) 50)):=HC5.out.res;have HG5:Hid (({ (w5.alloc (.cells (qaF R1) 50)) with drawn:=(w5.alloc (.cells (qaF R1) 50)).drawn+1}:World).heap[L]? = some (.cells GZ 119)):=by show _=_;rw[←HGZ.out];exact HC5.out.gate
 have HV5:Hid (PoV { (w5.alloc (.cells (qaF R1) 50)) with drawn:=(w5.alloc (.cells (qaF R1) 50)).drawn+1} W.heap.size (.slice va vn vc) po):=HC5.out.val.same fun _ h=>h;have hlt:W.heap.size<w5.heap.size:=HC5.out.lt;clear HC5;generalize ({ (w5.alloc (.cells (qaF R1) 50)) with drawn:=(w5.alloc (.cells (qaF R1) 50)).drawn+1}:World)=w6 at *;generalize w5.heap.size=N8 at *;refine tkH 0 39 (.slice va vn vc) rfl (by kernel_rfl) (fun _ _ _ h=>h) (fun Z hZ=>by kernel_rfl) hS5 ?_;refine tkH 1 40 (.agg (qaF R1)) rfl (by kernel_rfl) (fun _ _ _ h=>h) (fun Z hZ => ?y1) hS5 ?_
 case y1=>exact qix 50 (.tmp 11) (by kernel_rfl) N8 (by kernel_rfl) _ _ _ _ hZ underlying50 (by kernel_rfl) (qaS R1)
 refine tkH 2 41 (.int .i64 E1) rfl (by kernel_rfl) (fun _ _ _ h=>h) (fun Z hZ=>by kernel_rfl) hS5 ?_;refine tkH 3 2 (.slice va vn vc) rfl (by kernel_rfl) (fun _ _ _ h=>h) (fun Z hZ=>by kernel_rfl) hS5 ?_;refine rdS 4 rfl (by kernel_rfl) (fun K hK => ?_);refine ifw (by kernel_rfl) ?_;refine wp_store_row 50 (.tmp 3) (.tmp 40) rfl W.heap.size (qaF R1) (by kernel_rfl) (by kernel_rfl) 50 (qaF (0,0,0,0)) HQ5.out (qaS R1) (qvx _ _) (qdV R1) ?_;have hS6:(fun Z:World=>Z.heap[N8]? = some (.cells (qaF R1) 50)) (w6.setRow W.heap.size (qaF R1)):=sx (by omega) hS5;refine hK.out _ _ hS6 (fun _ => ?_);clear hK;refine tkH 5 4 (.int .i64 E1) rfl (by kernel_rfl) (fun _ _ _ h=>h) (fun Z hZ=>by kernel_rfl) hS6 ?_;refine tkH 6 5 (.int .i64 0) rfl (by kernel_rfl) (fun _ _ _ h=>h) (fun Z hZ=>by kernel_rfl) hS6 ?_;refine wpAnyH_done (by kernel_rfl) ?_ _;go_simp
 go_wp2_with fail
 refine bodyPost_ret (qds results33 _ _ W.heap.size 50 (qaF R1) (0,0) _ rfl (setRow_heap _ _ _ _ _ _ HQ5.out) underlying50 rfl (qaS R1) _ _ _ rfl rfl rfl) rfl ?_;have hR1:=HR1.out;have hE1:=HE1.out;subst hR1;subst hE1;exact⟨va,vn,vc,rfl,(HFY.out _ HP5.out).set (Nat.le_refl _) _,by rw[HGZ.out];exact(setRow_other _ _ _ _ hLS).trans HG5.out,HV5.out.same fun _ h=>qgZ h HQ5.out⟩
end
end Go.Proofs.YtllcbnfmihfaaaaGreatDoor
