import Derived.Test.YtllcbnfmihfaaaaGreatDoorCq26
set_option maxRecDepth 100000
set_option maxHeartbeats 8000000
namespace Go.Proofs.YtllcbnfmihfaaaaGreatDoor
open Go.Proofs.Tryz
variable {A r st x:Nat}{q:Aut}{sv:Value}{W:World}{ss:List (Nat×List UInt8)}{P:Nat→Bool}{tk:Nat→Nat→Nat}{rs:List (List (Nat×List UInt8)×Int×Int)}{ks:List (List UInt8)}{b:List UInt8}{s:Nat×List UInt8}{Y:Nat→Nat}{p:List (List UInt8×Bool)}
section
open Go.RowKit
theorem qlG.of_below {W':World}(h:Below W.heap.size W W'):qlG A q sv W W':=⟨h.size,fun j hj _ _ _ _=>h.block j hj⟩
theorem qlG.trans {V X:World}(h:qlG A q sv W V)(g:qlG A q sv V X):qlG A q sv W X :=
 ⟨Nat.le_trans h.size g.size,fun j hj a b c d=>(g.block j (Nat.lt_of_lt_of_le hj h.size) a b c d).trans (h.block j hj a b c d)⟩
def qxy (W0:World)(A:Nat)(q:Aut)(sts:List ((Nat→Nat)×Int×Int))(sv:Value)(P:Nat→Nat)(x mn:Nat)(W:World)(e:Ending)(W':World):Prop :=
 ∃(i:Nat) (sts':List ((Nat→Nat)×Int×Int)) (sa':Option Addr) (sc':Nat) (nf':Lit→Option Nat) (mn':Nat) (mf':Lit→Option Nat),e=.returned (.int .i64 i)∧qcj W0 A q sts' (.slice sa' sts'.length sc') nf' mn' mf' W'∧qtn q sts' mf'∧mn'≤mn+1∧(∀(j:Nat) (x:(Nat→Nat)×Int×Int),sts[j]? = some x→sts'[j]? = some x)∧sts'.length≤sts.length+1∧∃t Y,sts'[i]? = some t∧WdY q.rs.length q.st (qhV q.st (q.tk x) P q.rs.length) Y∧(∀r,r<16→t.1 r=Y r)∧qlG A q sv W W'∧qsH sv (.slice sa' sts'.length sc') W
theorem qoJ (W0:World)(A:Nat)(q:Aut)(sts:List ((Nat→Nat)×Int×Int))(sa:Option Addr)(sc:Nat)(nf:Lit→Option Nat)(mn:Nat)(mf:Lit→Option Nat)(W:World)(h:qcj W0 A q sts (.slice sa sts.length sc) nf mn mf W)(hok:qtn q sts mf)(hsm:sts.length<100000)(hmn:mn<100000)(f:Nat)(s:(Nat→Nat)×Int×Int)(hs:sts[f]? = some s)(key:List UInt8)(ix:Bool)(hb:key.length≤maxLen)(x:Nat)(hx:qlM q.lf key ix=x)(hxL:x<q.L)(l:Lit)(hl:keyOf prog 320 (.agg (mvA f x))=some l)(hi:mf l=none):Calls prog 153 #[.pointer (some ⟨A,0,none⟩),.int .i64 f,.agg #[.string ⟨key.toArray⟩,.bool ix]] W (qxy W0 A q sts (.slice sa sts.length sc) s.1 x mn W):=by
 have HA:Hid (qcj W0 A q sts (.slice sa sts.length sc) nf mn mf (W.alloc (.cells #[.string ⟨key.toArray⟩,.bool ix] 259))):=h.next bwA
 have HW:Hid (Below W.heap.size W (W.alloc (.cells #[.string ⟨key.toArray⟩,.bool ix] 259))):=bwA;have cL:=qfa W0 A q sts _ nf mn mf _ HA.out key ix hb;rw[hx] at cL;have HOK:=qaa hok;go_enter func153,ntmps153
 go_wp2_with (first
  |(go_at_call 194;refine cL.mono ?_;rintro e w2 ⟨rfl,hB2⟩;have HA2:=qaa (HA.out.next hB2);have HW2:=qaa (HW.out.trans (hB2.mono HW.out.size))))
 have HA3:Hid (qcj W0 A q sts (.slice sa sts.length sc) nf mn mf (w2.alloc (.cells #[.int .i64 f,.int .i64 x] 320))):=HA2.out.next bwA
 have HB3:Hid ((w2.alloc (.cells #[.int .i64 f,.int .i64 x] 320)).heap[w2.heap.size]? = some (.cells (mvA f x) 320)):=qac _ _;have HNE:Hid (∀g,(Value.slice sa sts.length sc).ownBlock=some g→g<w2.heap.size):=fun g e=>qjA HA2.out.states e;have HLT:Hid (A<w2.heap.size∧q.nb<w2.heap.size∧q.mb<w2.heap.size):=⟨(ltA HA2.out.row),HA2.out.numbers.lt,HA2.out.moves.lt⟩
 have HW3:Hid (Below W.heap.size W (w2.alloc (.cells #[.int .i64 f,.int .i64 x] 320))):=HW2.out.alloc HW2.out.size _;generalize w2.alloc (.cells #[.int .i64 f,.int .i64 x] 320)=V0 at *;refine rgn (S:=fun Z=>Z.cell? ⟨A,22,none⟩=some (.map (some q.mb))∧Z.heap[w2.heap.size]? = some (.cells (mvA f x) 320)∧qcW Z 320 q.mb mn mf) (⟨qab HA3.out.row 22,HB3.out,HA3.out.moves⟩) (by kernel_rfl) ?_;intro hS;refine tkH 0 16 (.pointer (some ⟨A,0,none⟩)) rfl (by kernel_rfl) (fun _ _ _ h=>h) (fun Z hZ=>by kernel_rfl) hS ?_;refine tkH 1 17 (.pointer (some ⟨A,0,none⟩)) rfl (by kernel_rfl) (fun _ _ _ h=>h) (fun Z hZ=>by kernel_rfl) hS ?_;refine tkH 2 18 (.pointer (some ⟨A,22,none⟩)) rfl (by kernel_rfl) (fun _ _ _ h=>h) (fun Z hZ=>by kernel_rfl) hS ?_;refine tkH 3 19 (.map (some q.mb)) rfl (by kernel_rfl) (fun _ _ _ h=>h) (fun Z hZ => ?y3) hS ?_
 case y3=>(have z1:=hZ.1;go_simp)
 refine tkH 4 20 (.agg (mvA f x)) rfl (by kernel_rfl) (fun _ _ _ h=>h) (fun Z hZ => ?y4) hS ?_
 case y4=>exact qix 320 (.tmp 7) rfl w2.heap.size rfl _ _ _ _ hZ.2.1 underlying320 rfl (by kernel_rfl)
 refine tkH 5 21 (.tuple #[.int .i64 0,.bool false]) rfl (by kernel_rfl) (fun _ _ _ h=>h) (fun Z hZ => ?y5) hS ?_
 case y5=>(have z2:=qdz hZ.2.2 mvK underlying161 hl;rw[hi] at z2;go_simp)
 refine tkH 6 15 (.tuple #[.int .i64 0,.bool false]) rfl (by kernel_rfl) (fun _ _ _ h=>h) (fun Z hZ=>by kernel_rfl) hS ?_;refine tkH 7 22 (.int .i64 0) rfl (by kernel_rfl) (fun _ _ _ h=>h) (fun Z hZ=>by kernel_rfl) hS ?_;refine tkH 8 23 (.bool false) rfl (by kernel_rfl) (fun _ _ _ h=>h) (fun Z hZ=>by kernel_rfl) hS ?_;refine tkH 9 8 (.int .i64 0) rfl (by kernel_rfl) (fun _ _ _ h=>h) (fun Z hZ=>by kernel_rfl) hS ?_;refine tkH 10 9 (.bool false) rfl (by kernel_rfl) (fun _ _ _ h=>h) (fun Z hZ=>by kernel_rfl) hS ?_;refine wpAnyH_done (by kernel_rfl) ?_ _;go_simp;have HA4:=qaa (HA3.out.next (Below.refl _ _).drew);have HB4:Hid ((World.drew V0).heap[w2.heap.size]? = some (.cells (mvA f x) 320)):=HB3.out;have HW4:=qaa (HW3.out.drew);generalize World.drew V0=V at *;obtain⟨g,cap,hsv,hgl,hgA,hc⟩:=HA4.out.state_at hs;injection hsv with e1 _ e3;subst e1;subst e3;have c20:V.cell? ⟨A,20,none⟩=some (.slice (some ⟨g,0,none⟩) sts.length sc):=qab HA4.out.row 20;have d1:V.cell? ⟨w2.heap.size,1,none⟩=some (.int .i64 x):=qab HB4.out 1;have hil:(f:Int)<(sts.length:Int):=by have:=ltL hs;omega
 have HC:Hid (∀(j:Nat) (u:Value),(plA s.1)[j]? = some u→V.cell? ⟨g,f*18+j,none⟩=some u):=fun j u hu=>hc j u (by
  have hj:=ltA hu;unfold stA;rw[Array.getElem?_append_left hj];exact hu)
 go_wp2;have hS:(fun Z:World=>Z.heap[w2.heap.size]? = some (.cells (mvA f x) 320)) {V with drawn:=V.drawn+1}:=HB4.out;have HA4':Hid (qcj W0 A q sts (.slice (some ⟨g,0,none⟩) sts.length sc) nf mn mf {V with drawn:=V.drawn+1}):=HA4.out.next (Below.refl _ _).drew
 have HC':Hid (∀(j:Nat) (u:Value),(plA s.1)[j]? = some u→({V with drawn:=V.drawn+1}:World).cell? ⟨g,f*18+j,none⟩=some u):=HC.out;have c20':({V with drawn:=V.drawn+1}:World).cell? ⟨A,20,none⟩=some (.slice (some ⟨g,0,none⟩) sts.length sc):=c20;have cA:=qoX {V with drawn:=V.drawn+1} A q.ra q.rc q.rs.length q.st q.tb q.L q.tc q.tk HA4'.out.bits.1 HA4'.out.bits.2 HA4'.out.few.1 HA4'.out.auR HA4'.out.auT s.1 (HA4'.out.here f s hs).2 x hxL;refine wp_region_held (S:=fun Z=>Z.heap[w2.heap.size]? = some (.cells (mvA f x) 320)) (by kernel_rfl) ?_;have HW5:Hid (Below W.heap.size W {V with drawn:=V.drawn+1}):=HW4.out.drew;generalize ({V with drawn:=V.drawn+1}:World)=V1 at *;refine tkH 0 26 (.pointer (some ⟨A,0,none⟩)) rfl (by kernel_rfl) (fun _ _ _ h=>h) (fun Z hZ=>by kernel_rfl) hS ?_;refine tkH 1 27 (.pointer (some ⟨A,0,none⟩)) rfl (by kernel_rfl) (fun _ _ _ h=>h) (fun Z hZ=>by kernel_rfl) hS ?_;refine tkH 2 28 (.pointer (some ⟨A,0,none⟩)) rfl (by kernel_rfl) (fun _ _ _ h=>h) (fun Z hZ=>by kernel_rfl) hS ?_;refine tkH 3 29 (.pointer (some ⟨A,0,none⟩)) rfl (by kernel_rfl) (fun _ _ _ h=>h) (fun Z hZ=>by kernel_rfl) hS ?_;refine tkH 4 30 (.pointer (some ⟨A,20,none⟩)) rfl (by kernel_rfl) (fun _ _ _ h=>h) (fun Z hZ=>by kernel_rfl) hS ?_;refine tkH 6 32 (.int .i64 f) rfl (by kernel_rfl) (fun _ _ _ h=>h) (fun Z hZ=>by kernel_rfl) hS ?_;refine tkH 10 36 (.pointer (some ⟨w2.heap.size,1,none⟩)) rfl (by kernel_rfl) (fun _ _ _ h=>h) (fun Z hZ=>by kernel_rfl) hS ?_;refine tkH 11 37 (.int .i64 x) rfl (by kernel_rfl) (fun _ _ _ h=>h) (fun Z hZ => ?y11) hS ?_
 case y11=>(have z1:Z.cell? ⟨w2.heap.size,1,none⟩=some (.int .i64 x):=qab hZ 1;go_simp)
 refine rdS 5 rfl (by kernel_rfl) (fun K hK => ?_);go_simp;refine hK.out _ _ hS (fun _ => ?_);refine rdS 7 rfl (by kernel_rfl) (fun K hK => ?_);go_simp;refine hK.out _ _ hS (fun _ => ?_);refine rdS 8 rfl (by kernel_rfl) (fun K hK => ?_);go_simp;refine hK.out _ _ hS (fun _ => ?_);refine rdS 9 rfl (by kernel_rfl) (fun K hK => ?_);refine ifw (by kernel_rfl) ?_;refine qhm 164 _ rfl g (f*18) rfl (plA s.1) _ HC'.out underlying164 rfl (qbh s.1) ?_;refine hK.out _ _ hS (fun _ => ?_);refine rdS 12 rfl (by kernel_rfl) (fun K hK => ?_);go_simp;refine cA.mono ?_;rintro e w4 ⟨⟨Y,rfl,hY⟩,hB2⟩;simp only[];have HY:=qaa hY;have HA5:=qaa (HA4'.out.next hB2);have hS5:(fun Z:World=>Z.heap[w2.heap.size]? = some (.cells (mvA f x) 320)) w4:=(hB2.block _ (ltA hS)).trans hS;refine hK.out _ _ hS5 (fun _ => ?_);have HW6:Hid (qlG A q (.slice (some ⟨g,0,none⟩) sts.length sc) W w4):=qlG.of_below (HW5.out.trans (hB2.mono HW5.out.size));refine rdS 13 rfl (by kernel_rfl) (fun K hK => ?_);go_simp;refine(qgn W0 A q sts _ sc nf mn mf w4 HA5.out Y HY.out.2.2 hsm).mono ?_;rintro e w6 ⟨i,sts',sa',sc',nf',rfl,hF,hOS,hA6,hpre,hlen,t,ht,htY⟩;simp only[];have HA6:=qaa hA6;have hS6:(fun Z:World=>Z.heap[w2.heap.size]? = some (.cells (mvA f x) 320)) w6:=(hF.block _ (ltA hS5) (fun e=>by have:=HNE.out _ e.symm;omega) (by have:=HLT.out.1;omega) (by have:=HLT.out.2.1;omega) (by have:=HLT.out.2.2;omega)).trans hS5;have HPR:=qaa hpre;have HTY:Hid (sts'[i]? = some t∧∀r,r<16→t.1 r=Y r):=⟨ht,htY⟩
 refine hK.out _ _ hS6 (fun _ => ?_);have HOS:=qaa (hOS.mono HW6.out.size);have HW7:=qaa (HW6.out.trans hF);refine tkH 14 8 (.int .i64 i) rfl (by kernel_rfl) (fun _ _ _ h=>h) (fun Z hZ=>by kernel_rfl) hS6 ?_;refine wpAnyH_done (by kernel_rfl) ?_ _;go_simp;go_wp2;have HA7:=qaa (HA6.out.next (Below.refl _ _).drew);have hil2:=ltL HTY.out.1;obtain⟨w7,hr7,hf7,hg7⟩:=qly HA7.out.moves mvK underlying161 (by omega) hl i (by omega);obtain⟨mf',e1,e2⟩:∃mf':Lit→Option Nat,mf' l=some i∧∀l',l'≠l→mf' l'=mf l':=by
  have:=Classical.propDecidable;exact⟨fun l'=>if l'=l then some i else mf l',if_pos rfl,fun l' hh=>if_neg hh⟩
 have HA8:=qaa (HA7.out.moved hg7 (hf7 mf' e1 e2));have HMV:Hid (qtn q sts' mf'):=by
  intro f2 x2 l2 k2 hk2 hm2;by_cases e:l2=l
  ·subst e;have e3:=Option.some.inj (e1.symm.trans hm2);have e4:=qsm.inj hk2 hl;injection e4 with e4;have e5:f2=f∧x2=x:=by
    have:=congrArg Array.toList e4;simp[mvA] at this;omega
   rw[e5.1,e5.2,←e3];exact⟨s,t,Y,HPR.out _ _ hs,HTY.out.1,HY.out,HTY.out.2⟩
  rw[e2 l2 e] at hm2;obtain⟨s2,t2,Y2,a1,a2,a3,a4⟩:=HOK.out f2 x2 l2 k2 hk2 hm2;exact⟨s2,t2,Y2,HPR.out _ _ a1,HPR.out _ _ a2,a3,a4⟩
 have hS7:(fun Z:World=>Z.cell? ⟨A,22,none⟩=some (.map (some q.mb))∧Z.heap[w2.heap.size]? = some (.cells (mvA f x) 320)) {w6 with drawn:=w6.drawn+1}:=⟨qab HA7.out.row 22,hS6⟩
 have hS8:(fun Z:World=>Z.cell? ⟨A,22,none⟩=some (.map (some q.mb))∧Z.heap[w2.heap.size]? = some (.cells (mvA f x) 320)) w7:=⟨qab HA8.out.row 22,(hg7.block w2.heap.size (ltA hS7.2) (by have:=HLT.out.2.2;simp;omega)).trans hS7.2⟩
 have HW8:=qaa (HW7.out.trans ⟨hg7.size,fun j hj _ _ _ hn=>hg7.block j hj (by simpa using hn)⟩);refine wp_region_held (S:=fun Z=>Z.cell? ⟨A,22,none⟩=some (.map (some q.mb))∧Z.heap[w2.heap.size]? = some (.cells (mvA f x) 320)) (by kernel_rfl) ?_;refine tkH 0 40 (.pointer (some ⟨A,0,none⟩)) rfl (by kernel_rfl) (fun _ _ _ h=>h) (fun Z hZ=>by kernel_rfl) hS7 ?_;refine tkH 1 41 (.pointer (some ⟨A,0,none⟩)) rfl (by kernel_rfl) (fun _ _ _ h=>h) (fun Z hZ=>by kernel_rfl) hS7 ?_;refine tkH 2 42 (.pointer (some ⟨A,22,none⟩)) rfl (by kernel_rfl) (fun _ _ _ h=>h) (fun Z hZ=>by kernel_rfl) hS7 ?_;refine tkH 3 43 (.map (some q.mb)) rfl (by kernel_rfl) (fun _ _ _ h=>h) (fun Z hZ => ?y3) hS7 ?_
 case y3=>(have z1:=hZ.1;go_simp)
 refine tkH 4 44 (.agg (mvA f x)) rfl (by kernel_rfl) (fun _ _ _ h=>h) (fun Z hZ => ?y4) hS7 ?_
 case y4=>exact qix 320 (.tmp 7) rfl w2.heap.size rfl _ _ _ _ hZ.2 underlying320 rfl (by kernel_rfl)
 refine tkH 5 45 (.int .i64 i) rfl (by kernel_rfl) (fun _ _ _ h=>h) (fun Z hZ=>by kernel_rfl) hS7 ?_;refine rdS 6 rfl (by kernel_rfl) (fun K hK => ?_);go_simp;refine hK.out _ _ hS8 (fun _ => ?_);refine wpAnyH_done (by kernel_rfl) ?_ _;go_simp;go_wp2;go_ret;exact⟨i,sts',sa',sc',nf',mn+1,mf',rfl,HA8.out,HMV.out,Nat.le_refl _,HPR.out,hlen,t,Y,HTY.out.1,HY.out,HTY.out.2,HW8.out,HOS.out⟩
theorem qt2 (W0:World)(A:Nat)(q:Aut)(sts:List ((Nat→Nat)×Int×Int))(sa:Option Addr)(sc:Nat)(nf:Lit→Option Nat)(mn:Nat)(mf:Lit→Option Nat)(W:World)(h:qcj W0 A q sts (.slice sa sts.length sc) nf mn mf W)(hok:qtn q sts mf)(hsm:sts.length<100000)(hmn:mn<100000)(f:Nat)(s:(Nat→Nat)×Int×Int)(hs:sts[f]? = some s)(key:List UInt8)(ix:Bool)(hb:key.length≤maxLen)(x:Nat)(hx:qlM q.lf key ix=x)(hxL:x<q.L)(hL:q.L≤100000):Calls prog 153 #[.pointer (some ⟨A,0,none⟩),.int .i64 f,.agg #[.string ⟨key.toArray⟩,.bool ix]] W (qxy W0 A q sts (.slice sa sts.length sc) s.1 x mn W):=by
 have hfl:=ltL hs;obtain⟨l,hl⟩:=qwx f x (by omega) (by omega)
 cases hi:mf l with
 |none=>exact qoJ W0 A q sts sa sc nf mn mf W h hok hsm hmn f s hs key ix hb x hx hxL l hl hi
 |some i =>
  refine(qmt W0 A q sts _ nf mn mf W h f key ix hb x hx l hl i hi).mono ?_;rintro e W' ⟨rfl,hB⟩;obtain⟨s',t,Y,a1,a2,a3,a4⟩:=hok f x l i hl hi;have e:=Option.some.inj (hs.symm.trans a1);subst e;exact⟨i,sts,sa,sc,nf,mn,mf,rfl,h.next hB,hok,Nat.le_succ _,fun _ _ hh=>hh,Nat.le_succ _,t,Y,a2,a3,a4,qlG.of_below hB,.inl rfl⟩
def lbF (dflt:Int):List (List (Nat×List UInt8)×Int×Int)→List (List UInt8×Bool)→Int×Int
 |[],_=>(dflt,1)
 |x::rs,p=>if qwK x.1 p then x.2 else lbF dflt rs p
def PlP (rs:List (List (Nat×List UInt8)×Int×Int))(p:List (List UInt8×Bool))(Y:Nat→Nat):Prop:=∀r (h:r<rs.length),∀k,(Y r).testBit k=plc rs[r].1 p k
theorem qlj (hs:∀k,st.testBit k=qgs ss k)(hx:∀k,x.testBit k=P k):∀k,wdB st x k=wdP ss P k
 |0=>hx 0
 |k+1=>by rw[wdB,wdP,hx,hs,qlj hs hx k]
theorem qus {tk:Nat}{t:List UInt8×Bool}(hs:∀k,st.testBit k=qgs ss k)(ht:∀k,tk.testBit k=qju ss t k)(hx:∀k,x.testBit k=P k)(k:Nat):(gon st tk x).testBit k=goP ss t P k:=by
 unfold gon;rw[Nat.testBit_or,Nat.testBit_and,Nat.testBit_shiftLeft,Nat.testBit_and,hx,hs]
 cases k with
 |zero=>rw[goP];simp
 |succ k =>
  rw[goP,Nat.add_sub_cancel,hx,ht];simp
theorem qnS (h:r<rs.length)(k:Nat):gB rs r k (fun s=>s.1==1)=qgs rs[r].1 k:=by
 unfold gB qgs;rw[List.getElem?_eq_getElem h];show(match rs[r].1[k]? with|some s=>s.1==1|none=>false)=_;cases rs[r].1[k]? <;> rfl
theorem qsE {a:List UInt8}(ha:a∈ks)(hb:b∈ks)(e:ks.idxOf a=ks.idxOf b):a=b:=by
 have h1:=List.idxOf_lt_length_iff.2 ha;have h2:=List.idxOf_lt_length_iff.2 hb;have e1:=List.getElem_idxOf h1;have e2:=List.getElem_idxOf h2;rw[←e1,←e2];simp[e]
theorem qsM (h:s.1=3→s.2∈ks)(h3:s.1≤3)(key:List UInt8)(ix:Bool):tkX ks s (qlM (fnL ks) key ix)=tkS s (key,ix):=by
 unfold tkX tkS;split
 ·rfl
 split
 ·rfl
 split
 ·cases ix with
  |true=>rfl
  |false =>
   show(((fnL ks (.string key)).getD 0)==1)=false;by_cases hm:key∈ks
   ·rw[qes hm];simp;omega
   rw[qdP hm];rfl
 have hs:=h (by omega);rw[qes hs]
 cases ix with
 |true =>
  show((1:Nat)==2+ks.idxOf s.2)=false;simp;omega
 |false =>
  show(((fnL ks (.string key)).getD 0)==2+ks.idxOf s.2)=(!false&&key==s.2)
  by_cases hm:key∈ks
  ·rw[qes hm];show(2+ks.idxOf key==2+ks.idxOf s.2)=_;by_cases he:key=s.2
   ·rw[he];simp
   have hne:ks.idxOf key≠ks.idxOf s.2:=fun e=>he (qsE hm hs e);have a1:(2+ks.idxOf key==2+ks.idxOf s.2)=false:=by simpa using hne
   rw[a1];simp[he]
  rw[qdP hm];have hne:key≠s.2:=fun e=>hm (e▸hs);have a1:((none:Option Nat).getD 0==2+ks.idxOf s.2)=false:=by simp;omega
  rw[a1];simp[hne]
theorem qsQ (key:List UInt8)(ix:Bool):qlM (fnL ks) key ix<2+ks.length:=by
 unfold qlM;split
 ·omega
 by_cases hm:key∈ks
 ·rw[qes hm];have:=List.idxOf_lt_length_iff.2 hm;show 2+ks.idxOf key<_;omega
 rw[qdP hm];show 0<_;omega
theorem qty (h:r<rs.length)(h3:∀s∈rs[r].1,s.1≤3∧(s.1=3→s.2∈ks))(key:List UInt8)(ix:Bool)(k:Nat):gB rs r k (fun s=>tkX ks s (qlM (fnL ks) key ix))=qju rs[r].1 (key,ix) k:=by
 unfold gB qju;rw[List.getElem?_eq_getElem h];show(match rs[r].1[k]? with|some s=>tkX ks s (qlM (fnL ks) key ix)|none=>false)=_
 cases hs:rs[r].1[k]? with
 |none=>rfl
 |some s =>
  have hm:=h3 s (List.mem_of_getElem? hs);exact qsM hm.2 hm.1 key ix
theorem qpa {st:Nat→Nat}(hd:LyD rs ks st tk)(hY:WdY rs.length st (one rs.length) Y):PlP rs [] Y:=by
 intro r h k;rw[hY.1 r h k];have hs:∀k,(st r).testBit k=qgs rs[r].1 k:=fun k=>(hd.s r k).trans (qnS h k);have hx:∀k,(one rs.length r).testBit k=(k==0):=by
  intro k;unfold one;rw[if_pos h]
  cases k with
  |zero=>rfl
  |succ k=>rw[Nat.testBit_succ];simp
 rw[qlj hs hx k];rfl
theorem qr7 {st:Nat→Nat}(hd:LyD rs ks st tk)(h3:∀r (h:r<rs.length),∀s∈rs[r].1,s.1≤3∧(s.1=3→s.2∈ks)){P:Nat→Nat}(hP:PlP rs p P)(key:List UInt8)(ix:Bool)(hY:WdY rs.length st (qhV st (tk (qlM (fnL ks) key ix)) P rs.length) Y):PlP rs ((key,ix)::p) Y:=by
 intro r h k;rw[hY.1 r h k];have hs:∀k,(st r).testBit k=qgs rs[r].1 k:=fun k=>(hd.s r k).trans (qnS h k);have ht:∀k,(tk (qlM (fnL ks) key ix) r).testBit k=qju rs[r].1 (key,ix) k:=fun k=>(hd.t _ r k).trans (qty h (h3 r h) key ix k);have hx:∀k,(qhV st (tk (qlM (fnL ks) key ix)) P rs.length r).testBit k=goP rs[r].1 (key,ix) (plc rs[r].1 p) k:=by
  intro k;unfold qhV;rw[if_pos h];exact qus hs ht (hP r h) k
 rw[qlj hs hx k];rfl
theorem qsv {X:Nat→Nat}(h:PlP rs p Y)(hn:rs.length≤16)(he:∀r,r<16→X r=Y r):PlP rs p X:=by
 intro r hr k;rw[he r (by omega)];exact h r hr k
theorem qpS (dflt:Int)(p:List (List UInt8×Bool))(Y:Nat→Nat):∀(rs:List (List (Nat×List UInt8)×Int×Int)) (o:Nat),(∀r (h:r<rs.length),∀k,(Y (o+r)).testBit k=plc rs[r].1 p.reverse k)→jdg dflt rs Y o=lbF dflt rs p
 |[],_,_=>rfl
 |x::rs,o,h=>by
  have h0:=h 0 (by simp) x.1.length;rw[jdg,lbF];have e:(Y o).testBit x.1.length=qwK x.1 p:=h0.trans (qrX x.1 p);rw[e,qpS dflt p Y rs (o+1) (fun r hr k=>by
   have:=h (r+1) (by simpa using hr) k;rw[show o+1+r=o+(r+1) by omega,this];rfl)]
theorem qtm (h:PlP rs p.reverse Y)(dflt:Int):jdg dflt rs Y 0=lbF dflt rs p :=
 qpS dflt p Y rs 0 (fun r hr k=>by rw[Nat.zero_add];exact h r hr k)
theorem qrI (h:b∈ks):b∈qhw ks s:=by
 unfold qhw;split
 ·exact List.mem_append_left _ h
 exact h
theorem qfQ:∀(ss:List (Nat×List UInt8)) (ks:List (List UInt8)),b∈ks→b∈ss.foldl qhw ks
 |[],_,h=>h
 |_::ss,_,h=>qfQ ss _ (qrI h)
theorem qjC:∀(ss:List (Nat×List UInt8)) (ks:List (List UInt8)) (s:Nat×List UInt8),s∈ss→s.1=3→s.2∈ss.foldl qhw ks
 |x::ss,ks,s,hs,h3=>by
  rcases List.mem_cons.1 hs with rfl|hs
  ·refine qfQ ss _ ?_;unfold qhw;by_cases hm:s.2∈ks
   ·rw[if_neg (fun h=>h.2 hm)];exact hm
   rw[if_pos ⟨h3,hm⟩];simp
  exact qjC ss _ s hs h3
theorem qjX:∀(rs:List (List (Nat×List UInt8)×Int×Int)) (ks:List (List UInt8)),b∈ks→b∈rs.foldl qsz ks
 |[],_,h=>h
 |r::rs,_,h=>qjX rs _ (qfQ r.1 _ h)
theorem qjM:∀(rs:List (List (Nat×List UInt8)×Int×Int)) (ks:List (List UInt8)) (r:List (Nat×List UInt8)×Int×Int),r∈rs→∀s∈r.1,s.1=3→s.2∈rs.foldl qsz ks
 |x::rs,ks,r,hr,s,hs,h3=>by
  rcases List.mem_cons.1 hr with rfl|hr
  ·exact qjX rs _ (qjC r.1 ks s hs h3)
  exact qjM rs _ r hr s hs h3
theorem qjl {i j:Nat}(h:i<rs.length)(h2:j<rs[i].1.length)(h3:rs[i].1[j].1=3):rs[i].1[j].2∈qcl rs :=
 qjM rs [] rs[i] (List.getElem_mem h) _ (List.getElem_mem h2) h3
theorem qmg:∀(rs:List (List (Nat×List UInt8)×Int×Int)) (ks:List (List UInt8)),(∀r∈rs,r.1.length≤8)→(rs.foldl qsz ks).length≤ks.length+8*rs.length
 |[],_,_=>by simp
 |r::rs,ks,h=>by
  have h1:=qmg rs (qsz ks r) (fun x hx=>h x (List.mem_cons_of_mem _ hx));have h2:(qsz ks r).length≤ks.length+r.1.length:=ql6 r.1 ks;have h3:=h r (by simp);rw[List.foldl_cons,List.length_cons];omega
theorem ql4 (hn:rs.length≤16)(h8:∀i (h:i<rs.length),rs[i].1.length≤8):(qcl rs).length≤128:=by
 have h:=qmg rs [] (fun r hr=>by
  obtain⟨i,hi,rfl⟩:=List.getElem_of_mem hr;exact h8 i hi)
 unfold qcl;simp at h;omega
end
section
open Go.RowKit Go.Shelf
theorem qo7 (i o d b:Int):(qf4 i o d b=false∧qfm i=false)∨(qf4 i o d b=false∧qfm i=true∧qfm o=false)∨(qf4 i o d b=false∧qfm i=true∧qfm o=true∧d<1)∨(qf4 i o d b=false∧qfm i=true∧qfm o=true∧1≤d∧16<d) ∨
  (qf4 i o d b=false∧qfm i=true∧qfm o=true∧1≤d∧d≤16∧b<1)∨(qf4 i o d b=false∧qfm i=true∧qfm o=true∧1≤d∧d≤16∧1≤b∧4096<b)∨(qf4 i o d b=true∧qfm i=true∧qfm o=true∧1≤d∧d≤16∧1≤b∧b≤4096):=by
 unfold qf4;cases qfm i<;>cases qfm o<;>simp;by_cases h1:d<1
 ·simp[h1];omega
 by_cases h2:16<d
 ·simp[h2];omega
 by_cases h3:b<1
 ·simp[h3];omega
 by_cases h4:4096<b
 ·simp[h4];omega
 omega
theorem qjE:qwN 47 qbw qdN:=by
 intro c w hc hg;have HC:Hid (ql7 w c):=hc;have HB8:Hid (c.B.length≤maxLen):=by have:=hc.bb;show _≤_;unfold maxLen;omega
 have HS:Hid (c.arr.size=11):=c.size;have HX:Hid (qir w c (w.alloc (.cells c.arr 45))):=qhW w c;have cL:=qqX c _ (HX.out.cfg hc);clear hc hg;cases h1:qbx c.labels c.L
 focus
  have hor:qg9 c=false:=by unfold qg9;rw[h1];rfl
  have HE:Hid (qbw c=1):=by show _=_;unfold qbw;simp[hor]
  have HN:Hid (qdN c=0):=by show _=_;unfold qdN;rw[HE.out];rfl
  rw[h1] at cL;clear h1 hor
 rotate_left
 rw[h1] at cL;obtain⟨hn,H⟩:=qdO h1;have HR:Hid (qi4 c.arr c.labels.toNat c.L c.ea c.ecap):=H;have HLN:Hid (c.labels=(c.labels.toNat:Nat)):=hn.symm;have HF0:Hid (c.arr[0]? = some (.int .i64 (c.labels.toNat:Nat))):=by show _=_;rw[hn];rfl
 have cB:=fun a W=>qc4 c.arr c.labels.toNat HF0.out a W;have hor:qg9 c=(qbC c.labels.toNat c.dflt&&qbC c.labels.toNat c.clr):=by unfold qg9;rw[h1];rfl
 clear h1 hn H;cases h2:qbC c.labels.toNat c.dflt
 focus
  have HE:Hid (qbw c=1):=by show _=_;unfold qbw;simp[hor,h2]
  have HN:Hid (qdN c=0):=by show _=_;unfold qdN;rw[HE.out];rfl
  clear hor
 rotate_left
 cases h3:qbC c.labels.toNat c.clr
 focus
  have HE:Hid (qbw c=1):=by show _=_;unfold qbw;simp[hor,h2,h3]
  have HN:Hid (qdN c=0):=by show _=_;unfold qdN;rw[HE.out];rfl
  clear hor
 rotate_left
 cases h4:qbz c.labels.toNat (qaZ c.labels.toNat c.L)
 focus
  have HE:Hid (qbw c=2):=by show _=_;unfold qbw;simp[hor,h2,h3,h4]
  have HN:Hid (qdN c=0):=by show _=_;unfold qdN;rw[HE.out];rfl
  clear hor
 rotate_left
 cases h5:qb6 c.labels.toNat (qaZ c.labels.toNat c.L)
 focus
  have HE:Hid (qbw c=3):=by show _=_;unfold qbw;simp[hor,h2,h3,h4,h5]
  have HN:Hid (qdN c=0):=by show _=_;unfold qdN;rw[HE.out];rfl
  clear hor
 rotate_left
 rcases qo7 c.inn c.out c.depth c.bytes with ⟨hlim,h6⟩|⟨hlim,h6,h7⟩|⟨hlim,h6,h7,d1⟩|⟨hlim,h6,h7,d1,d2⟩|⟨hlim,h6,h7,d1,d2,b1⟩|⟨hlim,h6,h7,d1,d2,b1,b2⟩|⟨hlim,h6,h7,d1,d2,b1,b2⟩
 focus
  have HE:Hid (qbw c=4):=by show _=_;unfold qbw;simp[hor,h2,h3,h4,h5,hlim]
  have HN:Hid (qdN c=0):=by show _=_;unfold qdN;rw[HE.out];rfl
  clear hor hlim
 rotate_left
 focus
  have HE:Hid (qbw c=4):=by show _=_;unfold qbw;simp[hor,h2,h3,h4,h5,hlim]
  have HN:Hid (qdN c=0):=by show _=_;unfold qdN;rw[HE.out];rfl
  clear hor hlim
 rotate_left
 focus
  have HE:Hid (qbw c=4):=by show _=_;unfold qbw;simp[hor,h2,h3,h4,h5,hlim]
  have HN:Hid (qdN c=0):=by show _=_;unfold qdN;rw[HE.out];rfl
  clear hor hlim
 rotate_left
 focus
  have HE:Hid (qbw c=4):=by show _=_;unfold qbw;simp[hor,h2,h3,h4,h5,hlim]
  have HN:Hid (qdN c=0):=by show _=_;unfold qdN;rw[HE.out];rfl
  clear hor hlim
 rotate_left
 focus
  have HE:Hid (qbw c=4):=by show _=_;unfold qbw;simp[hor,h2,h3,h4,h5,hlim]
  have HN:Hid (qdN c=0):=by show _=_;unfold qdN;rw[HE.out];rfl
  clear hor hlim
 rotate_left
 focus
  have HE:Hid (qbw c=4):=by show _=_;unfold qbw;simp[hor,h2,h3,h4,h5,hlim]
  have HN:Hid (qdN c=0):=by show _=_;unfold qdN;rw[HE.out];rfl
  clear hor hlim
 rotate_left
 cases h8:qaH c.B
 focus
  have HE:Hid (qbw c=5):=by show _=_;unfold qbw;simp[hor,h2,h3,h4,h5,hlim,h8]
  have HN:Hid (qdN c=0):=by show _=_;unfold qdN;rw[HE.out];rfl
  clear hor
 rotate_left
 by_cases h9:0≤qa3 c.labels.toNat c.pol.data.toList
 focus
  have HE:Hid (qbw c=6):=by show _=_;unfold qbw;simp[hor,h2,h3,h4,h5,hlim,h8,h9]
  obtain⟨V,hV⟩:∃V,qa3 c.labels.toNat c.pol.data.toList=V:=⟨_,rfl⟩
  have HV:Hid (qa3 c.labels.toNat c.pol.data.toList=V):=hV;have HN:Hid (qdN c=V):=by show _=_;unfold qdN;rw[HE.out,if_pos rfl];exact hV
  rw[hV] at h9;clear hor hlim hV
 rotate_left
 have HE:Hid (qbw c=0):=by show _=_;unfold qbw;simp[hor,h2,h3,h4,h5,hlim,h8,h9]
 obtain⟨V,hV⟩:∃V,qa3 c.labels.toNat c.pol.data.toList=V:=⟨_,rfl⟩
 have HV:Hid (qa3 c.labels.toNat c.pol.data.toList=V):=hV;have HN:Hid (qdN c=0):=by show _=_;unfold qdN;rw[HE.out];rfl
 rw[hV] at h9;clear hor hlim hV
 all_goals
  go_enter func47,ntmps47;have T1:True:=trivial;have T2:True:=trivial;have T3:True:=trivial;have T4:True:=trivial
  go_wp2_with (first
   |(refine wpList_load_row rfl 45 _ rfl _ rfl _ _ _ _ HX.out.box underlying45 rfl (qaV HS.out) ?_)
   |(refine qaf 45 _ rfl ?hw _ rfl _ _ _ _ HX.out.box underlying45 rfl (qaV HS.out) ?_;case hw=>simp[go_sem];done)
   |(go_at_call 75;refine cL.mono ?_;clear cL;rintro e w2 ⟨rfl,hB2⟩;have HX2:=qaa (HX.out.step hB2);clear HX;have HX:=HX2;clear HX2 hB2;have k2:w2.cell? ⟨w.heap.size,2,none⟩=some (.int .i64 c.dflt):=HX.out.cell 2)
   |(go_at_call 76;clear T1;refine(cB c.dflt _).mono ?_;clear k2;rintro e w3 ⟨rfl,hB3⟩;rw[h2];have HX2:=qaa (HX.out.step hB3);clear HX;have HX:=HX2;clear HX2 hB3;have k4:w3.cell? ⟨w.heap.size,4,none⟩=some (.int .i64 c.clr):=HX.out.cell 4)
   |(go_at_call 76;clear T2;refine(cB c.clr _).mono ?_;clear k4;rintro e w4 ⟨rfl,hB4⟩;rw[h3];have HX2:=qaa (HX.out.step hB4);clear HX;have HX:=HX2;clear HX2 hB4;have cO:=qli c.arr c.labels.toNat c.L c.ea c.ecap HR.out w4 (HX.out.cfg HC.out).edges)
   |(go_at_call 77;refine cO.mono ?_;clear cO;rintro e w5 ⟨rfl,hB5⟩;rw[h4];have HX2:=qaa (HX.out.step hB5);clear HX;have HX:=HX2;clear HX2 hB5;have cT:=qku c.arr c.labels.toNat c.L c.ea c.ecap HR.out w5 (HX.out.cfg HC.out).edges)
   |(go_at_call 78;refine cT.mono ?_;clear cT;rintro e w6 ⟨rfl,hB6⟩;rw[h5];have HX2:=qaa (HX.out.step hB6);clear HX;have HX:=HX2;clear HX2 hB6;have k6:w6.cell? ⟨w.heap.size,6,none⟩=some (.int .i64 c.inn):=HX.out.cell 6;have k7:w6.cell? ⟨w.heap.size,7,none⟩=some (.int .i64 c.out):=HX.out.cell 7;have k8:w6.cell? ⟨w.heap.size,8,none⟩=some (.int .i64 c.depth):=HX.out.cell 8;have k9:w6.cell? ⟨w.heap.size,9,none⟩=some (.int .i64 c.bytes):=HX.out.cell 9;have k10:w6.cell? ⟨w.heap.size,10,none⟩=some (.slice c.ba c.B.length c.bcap):=HX.out.cell 10;have cK:=qgD c.ba c.bcap c.B HB8.out w6 (HX.out.cfg HC.out).ints)
   |(go_at_call 44;clear T3;refine(qha c.inn _).mono ?_;rintro e w7 ⟨rfl,rfl⟩;rw[h6])
   |(go_at_call 44;clear T4;refine(qha c.out _).mono ?_;rintro e w8 ⟨rfl,rfl⟩;rw[h7])
   |(go_at_call 79;refine cK.mono ?_;clear cK k6 k7 k8 k9 k10;rintro e w9 ⟨rfl,hB9⟩;rw[h8];have HX2:=qaa (HX.out.step hB9);clear HX;have HX:=HX2;clear HX2 hB9;have cU:=qoo c c.labels.toNat HLN.out w9)
   |(go_at_call 80;refine cU.mono ?_;clear cU;rintro e w10 ⟨ua,um,uc,rfl,hB10⟩;rw[HV.out];have HX2:=qaa (HX.out.step hB10);clear HX;have HX:=HX2;clear HX2 hB10))
  go_ret2
  exact⟨by rw[HE.out,HN.out];rfl,HX.out.below⟩
end
end Go.Proofs.YtllcbnfmihfaaaaGreatDoor
