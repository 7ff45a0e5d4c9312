import Derived.Test.YtllcbnfmihfaaaaGreatDoorCq09
import Derived.Test.YtllcbnfmihfaaaaGreatDoorCq06
set_option maxRecDepth 100000
set_option maxHeartbeats 8000000
namespace Go.Proofs.YtllcbnfmihfaaaaGreatDoor
open Go.Proofs.Tryz
variable {L:List (Int×Int)}{a b ecap h i j k l n s x:Nat}{c d:Int}{e:Int×Int}{m:Nat→Nat→Bool}{S:Nat→Bool}{W W0:World}{arr:Array Value}{ea:Option Addr}
section
open Go.RowKit Go.Lib
def qb8 (x:Nat):List UInt8:=if x≤255 then 196::beF x 1 else if x≤65535 then 197::beF x 2 else 198::beF x 4
def qbB (x:Nat):List UInt8:=if x<16 then [UInt8.ofNat (144+x)] else if x≤65535 then 220::beF x 2 else 221::beF x 4
def qb2 (x:Nat):List UInt8:=if x<16 then [UInt8.ofNat (128+x)] else if x≤65535 then 222::beF x 2 else 223::beF x 4
theorem qmA:∀x:Fin 16,bits .or .u8 144 (x.val:Int)=((144+x.val:Nat):Int):=by decide
theorem qng:∀x:Fin 16,bits .or .u8 128 (x.val:Int)=((128+x.val:Nat):Int):=by decide
theorem qnh (W:World)(base:Nat)(v:Value)(bs:List UInt8)(x:Nat)(hx:x<4294967296)(hl:bs.length≤999999999)(h:Own W base v bs):Calls prog 168 #[v,.int .u64 x] W fun e W'=>∃v',e=.returned v'∧Own W' base v' (bs++qb8 x)∧Below base W W':=by
 obtain⟨i0,hi,hz0,hz1,hz2⟩:=info_parts Tryz.infoU8;obtain⟨ho,hb,a,n,c,rfl⟩:=h;have HO:=qaa ho;by_cases c1:x≤255
 ·have hr:Hid (qb8 x=196::beF x 1):=by show _=_;unfold qb8;rw[if_pos c1]
  go_enter func168,ntmps168
  go_wp2_with (first
   |(at_builtin;refine wpList_append_own _ rfl _ _ 28 rfl base 5 i0 (.int .u8 0) 1 1 underlying28 hi hz0 hz1 hz2 rfl (by decide) _ _ _ rfl (HO.out.alloc _) ⟨W.heap.size,0,none⟩ 1 1 [.int .u8 196] rfl rfl (qag _ _ _) (fun u hu=>by simp at hu;subst hu;rfl) (by unfold maxLen;omega) (by omega) (by simp;omega) ?_;intro v' w5 hown' hgrow5 hnil5;have HB:Hid (Own w5 base v' (bs++[196])∧Below base W w5):=qax hb HO.out rfl hown' hgrow5;obtain⟨g5,cap5,rfl⟩:=ownsRow_succ hown')
   |(go_at_call 202;refine(qaq _ base _ _ x 1 (by omega) (by omega) (by simp;omega) HB.out.1).mono ?_;rintro e w6 ⟨v6,rfl,h6,hB6⟩;obtain⟨h61,h62,a6,n6,c6,rfl⟩:=h6;have HC:=qaa (qaJ HB.out ⟨h61,h62,a6,n6,c6,rfl⟩ hB6 (hr.out.symm))))
  go_ret;exact⟨_,rfl,HC.out⟩
 by_cases c2:x≤65535
 ·have hr:Hid (qb8 x=197::beF x 2):=by show _=_;unfold qb8;rw[if_neg c1];rw[if_pos c2]
  go_enter func168,ntmps168
  go_wp2_with (first
   |(at_builtin;refine wpList_append_own _ rfl _ _ 28 rfl base 5 i0 (.int .u8 0) 1 1 underlying28 hi hz0 hz1 hz2 rfl (by decide) _ _ _ rfl (HO.out.alloc _) ⟨W.heap.size,0,none⟩ 1 1 [.int .u8 197] rfl rfl (qag _ _ _) (fun u hu=>by simp at hu;subst hu;rfl) (by unfold maxLen;omega) (by omega) (by simp;omega) ?_;intro v' w5 hown' hgrow5 hnil5;have HB:Hid (Own w5 base v' (bs++[197])∧Below base W w5):=qax hb HO.out rfl hown' hgrow5;obtain⟨g5,cap5,rfl⟩:=ownsRow_succ hown')
   |(go_at_call 202;refine(qaq _ base _ _ x 2 (by omega) (by omega) (by simp;omega) HB.out.1).mono ?_;rintro e w6 ⟨v6,rfl,h6,hB6⟩;obtain⟨h61,h62,a6,n6,c6,rfl⟩:=h6;have HC:=qaa (qaJ HB.out ⟨h61,h62,a6,n6,c6,rfl⟩ hB6 (hr.out.symm))))
  go_ret;exact⟨_,rfl,HC.out⟩
 have hr:Hid (qb8 x=198::beF x 4):=by show _=_;unfold qb8;rw[if_neg c1];rw[if_neg c2]
 go_enter func168,ntmps168
 go_wp2_with (first
  |(at_builtin;refine wpList_append_own _ rfl _ _ 28 rfl base 5 i0 (.int .u8 0) 1 1 underlying28 hi hz0 hz1 hz2 rfl (by decide) _ _ _ rfl (HO.out.alloc _) ⟨W.heap.size,0,none⟩ 1 1 [.int .u8 198] rfl rfl (qag _ _ _) (fun u hu=>by simp at hu;subst hu;rfl) (by unfold maxLen;omega) (by omega) (by simp;omega) ?_;intro v' w5 hown' hgrow5 hnil5;have HB:Hid (Own w5 base v' (bs++[198])∧Below base W w5):=qax hb HO.out rfl hown' hgrow5;obtain⟨g5,cap5,rfl⟩:=ownsRow_succ hown')
  |(go_at_call 202;refine(qaq _ base _ _ x 4 (by omega) (by omega) (by simp;omega) HB.out.1).mono ?_;rintro e w6 ⟨v6,rfl,h6,hB6⟩;obtain⟨h61,h62,a6,n6,c6,rfl⟩:=h6;have HC:=qaa (qaJ HB.out ⟨h61,h62,a6,n6,c6,rfl⟩ hB6 (hr.out.symm))))
 go_ret;exact⟨_,rfl,HC.out⟩
theorem qmr (W:World)(base:Nat)(v:Value)(bs:List UInt8)(x:Nat)(hx:x<4294967296)(hl:bs.length≤999999999)(h:Own W base v bs):Calls prog 169 #[v,.int .u8 144,.int .u8 220,.int .u64 x] W fun e W'=>∃v',e=.returned v'∧Own W' base v' (bs++qbB x)∧Below base W W':=by
 obtain⟨i0,hi,hz0,hz1,hz2⟩:=info_parts Tryz.infoU8;obtain⟨ho,hb,a,n,c,rfl⟩:=h;have HO:=qaa ho;by_cases c0:x<16
 ·have hr:Hid (qbB x=[UInt8.ofNat (144+x)]):=by show _=_;unfold qbB;rw[if_pos c0]
  have hor:=qmA ⟨x,c0⟩;simp only[] at hor;have HV:Hid (qav (UInt8.ofNat (144+x))=.int .u8 (bits .or .u8 144 (x:Int))):=by show _=_;rw[hor,qaQ _ (by omega)]
  have HV2:Hid (qav (UInt8.ofNat (144+x))=.int .u8 (144+(x:Int))):=by show _=_;rw[qaQ _ (by omega)];simp
  go_enter func169,ntmps169
  go_wp2_with (first
   |(at_builtin;refine wpList_append_own _ rfl _ _ 28 rfl base 5 i0 (.int .u8 0) 1 1 underlying28 hi hz0 hz1 hz2 rfl (by decide) _ _ _ rfl (HO.out.alloc _) ⟨W.heap.size,0,none⟩ 1 1 [.int .u8 (bits .or .u8 144 (x:Int))] rfl rfl (qag _ _ _) (fun u hu=>by simp at hu;subst hu;rfl) (by unfold maxLen;omega) (by omega) (by simp;omega) ?_;intro v' w5 hown' hgrow5 hnil5;have HB:=qaa (qax hb HO.out HV.out hown' hgrow5);obtain⟨g5,cap5,rfl⟩:=ownsRow_succ hown')
   |(at_builtin;refine wpList_append_own _ rfl _ _ 28 rfl base 5 i0 (.int .u8 0) 1 1 underlying28 hi hz0 hz1 hz2 rfl (by decide) _ _ _ rfl (HO.out.alloc _) ⟨W.heap.size,0,none⟩ 1 1 [.int .u8 (144+(x:Int))] rfl rfl (qag _ _ _) (fun u hu=>by simp at hu;subst hu;rfl) (by unfold maxLen;omega) (by omega) (by simp;omega) ?_;intro v' w5 hown' hgrow5 hnil5;have HB:Hid (Own w5 base v' (bs++[UInt8.ofNat (144+x)])∧Below base W w5):=qax hb HO.out HV2.out hown' hgrow5;obtain⟨g5,cap5,rfl⟩:=ownsRow_succ hown'))
  go_ret;rw[hr.out];exact⟨_,rfl,HB.out⟩
 by_cases c2:x≤65535
 ·have hr:Hid (qbB x=220::beF x 2):=by show _=_;unfold qbB;rw[if_neg c0];rw[if_pos c2]
  go_enter func169,ntmps169
  go_wp2_with (first
   |(at_builtin;refine wpList_append_own _ rfl _ _ 28 rfl base 5 i0 (.int .u8 0) 1 1 underlying28 hi hz0 hz1 hz2 rfl (by decide) _ _ _ rfl (HO.out.alloc _) ⟨W.heap.size,0,none⟩ 1 1 [.int .u8 220] rfl rfl (qag _ _ _) (fun u hu=>by simp at hu;subst hu;rfl) (by unfold maxLen;omega) (by omega) (by simp;omega) ?_;intro v' w5 hown' hgrow5 hnil5;have HB:Hid (Own w5 base v' (bs++[220])∧Below base W w5):=qax hb HO.out rfl hown' hgrow5;obtain⟨g5,cap5,rfl⟩:=ownsRow_succ hown')
   |(go_at_call 202;refine(qaq _ base _ _ x 2 (by omega) (by omega) (by simp;omega) HB.out.1).mono ?_;rintro e w6 ⟨v6,rfl,h6,hB6⟩;obtain⟨h61,h62,a6,n6,c6,rfl⟩:=h6;have HC:=qaa (qaJ HB.out ⟨h61,h62,a6,n6,c6,rfl⟩ hB6 (hr.out.symm))))
  go_ret;exact⟨_,rfl,HC.out⟩
 have hr:Hid (qbB x=221::beF x 4):=by show _=_;unfold qbB;rw[if_neg c0];rw[if_neg c2]
 go_enter func169,ntmps169
 go_wp2_with (first
  |(at_builtin;refine wpList_append_own _ rfl _ _ 28 rfl base 5 i0 (.int .u8 0) 1 1 underlying28 hi hz0 hz1 hz2 rfl (by decide) _ _ _ rfl (HO.out.alloc _) ⟨W.heap.size,0,none⟩ 1 1 [.int .u8 221] rfl rfl (qag _ _ _) (fun u hu=>by simp at hu;subst hu;rfl) (by unfold maxLen;omega) (by omega) (by simp;omega) ?_;intro v' w5 hown' hgrow5 hnil5;have HB:Hid (Own w5 base v' (bs++[221])∧Below base W w5):=qax hb HO.out rfl hown' hgrow5;obtain⟨g5,cap5,rfl⟩:=ownsRow_succ hown')
  |(go_at_call 202;refine(qaq _ base _ _ x 4 (by omega) (by omega) (by simp;omega) HB.out.1).mono ?_;rintro e w6 ⟨v6,rfl,h6,hB6⟩;obtain⟨h61,h62,a6,n6,c6,rfl⟩:=h6;have HC:=qaa (qaJ HB.out ⟨h61,h62,a6,n6,c6,rfl⟩ hB6 (hr.out.symm))))
 go_ret;exact⟨_,rfl,HC.out⟩
theorem qm5 (W:World)(base:Nat)(v:Value)(bs:List UInt8)(x:Nat)(hx:x<4294967296)(hl:bs.length≤999999999)(h:Own W base v bs):Calls prog 169 #[v,.int .u8 128,.int .u8 222,.int .u64 x] W fun e W'=>∃v',e=.returned v'∧Own W' base v' (bs++qb2 x)∧Below base W W':=by
 obtain⟨i0,hi,hz0,hz1,hz2⟩:=info_parts Tryz.infoU8;obtain⟨ho,hb,a,n,c,rfl⟩:=h;have HO:=qaa ho;by_cases c0:x<16
 ·have hr:Hid (qb2 x=[UInt8.ofNat (128+x)]):=by show _=_;unfold qb2;rw[if_pos c0]
  have hor:=qng ⟨x,c0⟩;simp only[] at hor;have HV:Hid (qav (UInt8.ofNat (128+x))=.int .u8 (bits .or .u8 128 (x:Int))):=by show _=_;rw[hor,qaQ _ (by omega)]
  have HV2:Hid (qav (UInt8.ofNat (128+x))=.int .u8 (128+(x:Int))):=by show _=_;rw[qaQ _ (by omega)];simp
  go_enter func169,ntmps169
  go_wp2_with (first
   |(at_builtin;refine wpList_append_own _ rfl _ _ 28 rfl base 5 i0 (.int .u8 0) 1 1 underlying28 hi hz0 hz1 hz2 rfl (by decide) _ _ _ rfl (HO.out.alloc _) ⟨W.heap.size,0,none⟩ 1 1 [.int .u8 (bits .or .u8 128 (x:Int))] rfl rfl (qag _ _ _) (fun u hu=>by simp at hu;subst hu;rfl) (by unfold maxLen;omega) (by omega) (by simp;omega) ?_;intro v' w5 hown' hgrow5 hnil5;have HB:Hid (Own w5 base v' (bs++[UInt8.ofNat (128+x)])∧Below base W w5):=qax hb HO.out HV.out hown' hgrow5;obtain⟨g5,cap5,rfl⟩:=ownsRow_succ hown')
   |(at_builtin;refine wpList_append_own _ rfl _ _ 28 rfl base 5 i0 (.int .u8 0) 1 1 underlying28 hi hz0 hz1 hz2 rfl (by decide) _ _ _ rfl (HO.out.alloc _) ⟨W.heap.size,0,none⟩ 1 1 [.int .u8 (128+(x:Int))] rfl rfl (qag _ _ _) (fun u hu=>by simp at hu;subst hu;rfl) (by unfold maxLen;omega) (by omega) (by simp;omega) ?_;intro v' w5 hown' hgrow5 hnil5;have HB:=qaa (qax hb HO.out HV2.out hown' hgrow5);obtain⟨g5,cap5,rfl⟩:=ownsRow_succ hown'))
  go_ret;rw[hr.out];exact⟨_,rfl,HB.out⟩
 by_cases c2:x≤65535
 ·have hr:Hid (qb2 x=222::beF x 2):=by show _=_;unfold qb2;rw[if_neg c0];rw[if_pos c2]
  go_enter func169,ntmps169
  go_wp2_with (first
   |(at_builtin;refine wpList_append_own _ rfl _ _ 28 rfl base 5 i0 (.int .u8 0) 1 1 underlying28 hi hz0 hz1 hz2 rfl (by decide) _ _ _ rfl (HO.out.alloc _) ⟨W.heap.size,0,none⟩ 1 1 [.int .u8 222] rfl rfl (qag _ _ _) (fun u hu=>by simp at hu;subst hu;rfl) (by unfold maxLen;omega) (by omega) (by simp;omega) ?_;intro v' w5 hown' hgrow5 hnil5;have HB:Hid (Own w5 base v' (bs++[222])∧Below base W w5):=qax hb HO.out rfl hown' hgrow5;obtain⟨g5,cap5,rfl⟩:=ownsRow_succ hown')
   |(go_at_call 202;refine(qaq _ base _ _ x 2 (by omega) (by omega) (by simp;omega) HB.out.1).mono ?_;rintro e w6 ⟨v6,rfl,h6,hB6⟩;obtain⟨h61,h62,a6,n6,c6,rfl⟩:=h6;have HC:=qaa (qaJ HB.out ⟨h61,h62,a6,n6,c6,rfl⟩ hB6 (hr.out.symm))))
  go_ret;exact⟨_,rfl,HC.out⟩
 have hr:Hid (qb2 x=223::beF x 4):=by show _=_;unfold qb2;rw[if_neg c0];rw[if_neg c2]
 go_enter func169,ntmps169
 go_wp2_with (first
  |(at_builtin;refine wpList_append_own _ rfl _ _ 28 rfl base 5 i0 (.int .u8 0) 1 1 underlying28 hi hz0 hz1 hz2 rfl (by decide) _ _ _ rfl (HO.out.alloc _) ⟨W.heap.size,0,none⟩ 1 1 [.int .u8 223] rfl rfl (qag _ _ _) (fun u hu=>by simp at hu;subst hu;rfl) (by unfold maxLen;omega) (by omega) (by simp;omega) ?_;intro v' w5 hown' hgrow5 hnil5;have HB:Hid (Own w5 base v' (bs++[223])∧Below base W w5):=qax hb HO.out rfl hown' hgrow5;obtain⟨g5,cap5,rfl⟩:=ownsRow_succ hown')
  |(go_at_call 202;refine(qaq _ base _ _ x 4 (by omega) (by omega) (by simp;omega) HB.out.1).mono ?_;rintro e w6 ⟨v6,rfl,h6,hB6⟩;obtain⟨h61,h62,a6,n6,c6,rfl⟩:=h6;have HC:=qaa (qaJ HB.out ⟨h61,h62,a6,n6,c6,rfl⟩ hB6 (hr.out.symm))))
 go_ret;exact⟨_,rfl,HC.out⟩
end
section
open Go.RowKit Go.Deep
def Rch (L:List (Int×Int))(a b:Nat):Prop:=∀S:Nat→Prop,S a→(∀e,e∈L→S e.1.toNat→S e.2.toNat)→S b
theorem Rch.refl (L:List (Int×Int))(a:Nat):Rch L a a:=fun _ h _=>h
theorem Rch.trans {c:Nat}(h:Rch L a b)(k:Rch L b c):Rch L a c:=fun S ha hc=>k S (h S ha hc) hc
theorem Rch.edge (h:e∈L):Rch L e.1.toNat e.2.toNat:=fun _ ha hc=>hc e h ha
theorem qpz (h:m i j=true):qnl m e i j=true:=by
 unfold qnl upd;split<;>simp_all
theorem qpl (m:Nat→Nat→Bool)(e:Int×Int):qnl m e e.1.toNat e.2.toNat=true:=by simp[qnl,upd]
theorem qh2 (L:List (Int×Int)):∀(m:Nat→Nat→Bool) (i j:Nat),m i j=true→L.foldl qnl m i j=true:=by
 induction L with
 |nil=>intro m i j h;exact h
 |cons e L ih=>intro m i j h;exact ih _ i j (qpz h)
theorem qof (L:List (Int×Int)):∀(m:Nat→Nat→Bool) (e:Int×Int),e∈L→L.foldl qnl m e.1.toNat e.2.toNat=true:=by
 induction L with
 |nil=>intro m e h;cases h
 |cons x L ih =>
  intro m e h
  cases List.mem_cons.1 h with
  |inl h=>subst h;exact qh2 L _ _ _ (qpl m e)
  |inr h=>exact ih _ e h
theorem qlq (P:Nat→Nat→Prop)(L:List (Int×Int)):∀(m:Nat→Nat→Bool),(∀i j,m i j=true→P i j)→(∀e,e∈L→P e.1.toNat e.2.toNat)→∀i j,L.foldl qnl m i j=true→P i j:=by
 induction L with
 |nil=>intro m h _;exact h
 |cons x L ih =>
  intro m h he;refine ih (qnl m x) (fun i j hij => ?_) (fun e hm=>he e (List.mem_cons_of_mem _ hm));unfold qnl upd at hij;split at hij
  ·rename_i c
   obtain⟨rfl,rfl⟩:=c;exact he x (List.mem_cons_self ..)
  exact h i j hij
theorem qkZ (h:qer n L i j=true):Rch L i j :=
 qlq (Rch L) L (qnI n) (fun i j hij=>by have:=of_decide_eq_true hij;rw[this.1];exact Rch.refl _ _) (fun _ he=>Rch.edge he) i j h
theorem qeq (H:fst n k m l h i j=true):m i j=true∨(m i k=true∧m k j=true):=by
 unfold fst at H;simp only[Bool.or_eq_true,Bool.and_eq_true] at H;rcases H with H|⟨_,H⟩
 ·exact .inl H
 exact .inr H
theorem qlv (H:m i j=true):fst n k m l h i j=true:=by
 unfold fst;rw[H];rfl
theorem qfz (hi:i<n)(hj:j<n)(H1:m i k=true)(H2:m k j=true):fst n k m n 0 i j=true:=by
 unfold fst;rw[H1,H2,decide_eq_true (by omega)];simp
theorem qmC:∀(k i j:Nat),qhY n k (qer n L) i j=true→Rch L i j:=by
 intro k
 induction k with
 |zero=>intro i j h;exact qkZ h
 |succ k ih =>
  intro i j h;rcases qeq h with h|⟨h1,h2⟩
  ·exact ih i j h
  exact(ih i k h1).trans (ih k j h2)
theorem qjG (h:m i j=true):∀k,qhY n k m i j=true:=by
 intro k
 induction k with
 |zero=>exact h
 |succ k ih=>exact qlv ih
theorem qmO:∀(k:Nat),k≤n→∀c i j,c<k→i<n→j<n→qhY n k m i c=true→qhY n k m c j=true→qhY n k m i j=true:=by
 intro k
 induction k with
 |zero=>intro _ c i j h;omega
 |succ k ih =>
  intro hk c i j hc hi hj h1 h2;have ih:=ih (by omega);have col:∀x,qhY n (k+1) m x k=qhY n k m x k:=fun x=>qoG n k (qhY n k m) n 0 x;have line:∀x,qhY n (k+1) m k x=qhY n k m k x:=fun x=>qlC n k (qhY n k m) n 0 x;by_cases e:c=k
  ·subst e;rw[col] at h1;rw[line] at h2;exact qfz hi hj h1 h2
  have hck:c<k:=by omega
  have hcn:c<n:=by omega
  have hkn:k<n:=by omega
  rcases qeq h1 with h1|⟨h1,h1'⟩
  ·rcases qeq h2 with h2|⟨h2,h2'⟩
   ·exact qlv (ih c i j hck hi hj h1 h2)
   exact qfz hi hj (ih c i k hck hi hkn h1 h2) h2'
  rcases qeq h2 with h2|⟨h2,h2'⟩
  ·exact qfz hi hj h1 (ih c k j hck hkn hj h1' h2)
  exact qfz hi hj h1 h2'
theorem qkQ (hE:qaO n L=true)(he:e∈L):e.1.toNat<n∧e.2.toNat<n:=by
 have:=List.all_eq_true.1 hE e he;unfold qcu at this;simp only[Bool.and_eq_true] at this;obtain⟨⟨h1,h2⟩,_⟩:=this;have g1:=of_decide_eq_true h1;have g2:=of_decide_eq_true h2;omega
theorem qq6 (hE:qaO n L=true)(ha:a<n)(hb:b<n):qcF n L a b=true↔Rch L a b:=by
 constructor
 ·exact qmC n a b
 intro h;have:=h (fun x=>x<n→qcF n L a x=true) (fun _=>qjG (qh2 L _ _ _ (decide_eq_true ⟨rfl,ha⟩)) n)
  (fun e he h1 h2=>qmO n (Nat.le_refl _) e.1.toNat a e.2.toNat (qkQ hE he).1 ha h2 (h1 (qkQ hE he).1) (qjG (qof L _ e he) n))
 exact this hb
theorem qpx (h:S x=true):qji S k x=true:=by unfold qji;split<;>simp_all
theorem qhs (h:S x=true):qgS S e x=true:=by
 unfold qgS;split
 ·exact qpx h
 exact h
theorem qcL (L:List (Int×Int)):∀{S:Nat→Bool} {x:Nat},S x=true→qbb L S x=true:=by
 unfold qbb
 induction L with
 |nil=>intro S x h;exact h
 |cons e L ih=>intro S x h;exact ih (qhs h)
theorem qkX (L:List (Int×Int)):∀{S:Nat→Bool} {e:Int×Int},e∈L→S e.1.toNat=true→qbb L S e.2.toNat=true:=by
 induction L with
 |nil=>intro S e h;cases h
 |cons x L ih =>
  intro S e h hs
  cases List.mem_cons.1 h with
  |inl h =>
   subst h;refine qcL L (S:=qgS S e) ?_;unfold qgS;rw[if_pos hs];simp[qji]
  |inr h=>exact ih (S:=qgS S x) h (qhs hs)
theorem qeX (P:Nat→Prop)(L:List (Int×Int)):∀{S:Nat→Bool},(∀x,S x=true→P x)→(∀e,e∈L→P e.1.toNat→P e.2.toNat)→∀x,qbb L S x=true→P x:=by
 induction L with
 |nil=>intro S h _;exact h
 |cons e L ih =>
  intro S h he;refine ih (S:=qgS S e) (fun x hx => ?_) (fun e' h'=>he e' (List.mem_cons_of_mem _ h'));unfold qgS at hx;split at hx
  ·rename_i hs
   unfold qji at hx;split at hx
   ·rename_i c;subst c;exact he e (List.mem_cons_self ..) (h _ hs)
   exact h x hx
  exact h x hx
def Shut (L:List (Int×Int))(S:Nat→Bool):Prop:=∀e,e∈L→S e.1.toNat=true→S e.2.toNat=true
theorem qfF (h:Shut L S):qbb L S=S:=by
 funext x;cases hx:S x
 ·cases hr:qbb L S x
  ·rfl
  have:=qeX (fun x=>S x=true) L (S:=S) (fun _ h=>h) h x hr;rw[hx] at this;cases this
 exact qcL L hx
def cnt (n:Nat)(S:Nat→Bool):Nat:=((List.range n).filter S).length
theorem qww (n:Nat)(S:Nat→Bool):cnt n S≤n:=by
 have:=List.length_filter_le S (List.range n);simpa [cnt] using this
theorem qpM {T:Nat→Bool}(hm:∀x,S x=true→T x=true):∀(l:List Nat) (y:Nat),y∈l→S y=false→T y=true→(l.filter S).length<(l.filter T).length:=by
 have le:∀l:List Nat,(l.filter S).length≤(l.filter T).length:=by
  intro l
  induction l with
  |nil=>simp
  |cons x l ih =>
   cases hs:S x
   ·rw[List.filter_cons_of_neg (by simp[hs])];exact Nat.le_trans ih (by rw[List.filter_cons];split<;>simp)
   rw[List.filter_cons_of_pos hs,List.filter_cons_of_pos (hm x hs)];simp only[List.length_cons];omega
 intro l
 induction l with
 |nil=>intro y hy;cases hy
 |cons x l ih =>
  intro y hy h1 h2
  cases List.mem_cons.1 hy with
  |inl h =>
   subst h;rw[List.filter_cons_of_neg (by simp[h1]),List.filter_cons_of_pos h2];have:=le l;simp only[List.length_cons];omega
  |inr h =>
   have:=ih y h h1 h2;cases hs:S x
   ·rw[List.filter_cons_of_neg (by simp[hs])];exact Nat.lt_of_lt_of_le this (by rw[List.filter_cons];split<;>simp)
   rw[List.filter_cons_of_pos hs,List.filter_cons_of_pos (hm x hs)];simp only[List.length_cons];omega
theorem qkA (hE:qaO n L=true)(ha:a<n):∀k,Shut L (qa0 L k (qa8 a))∨k+1≤cnt n (qa0 L k (qa8 a)):=by
 intro k
 induction k with
 |zero =>
  right;have:0<((List.range n).filter (qa8 a)).length:=List.length_pos_of_mem (a:=a) (List.mem_filter.2 ⟨List.mem_range.2 ha,by simp[qa8,qji]⟩);exact this
 |succ k ih =>
  rcases ih with h|h
  ·left;show Shut L (qbb L (qa0 L k (qa8 a)));rw[qfF h];exact h
  by_cases hs:Shut L (qa0 L k (qa8 a))
  ·left;show Shut L (qbb L (qa0 L k (qa8 a)));rw[qfF hs];exact hs
  right;have:∃e,e∈L∧qa0 L k (qa8 a) e.1.toNat=true∧qa0 L k (qa8 a) e.2.toNat=false:=by
   apply Classical.byContradiction;intro hno;refine hs (fun e he h1 => ?_);cases h2:qa0 L k (qa8 a) e.2.toNat
   ·exact absurd ⟨e,he,h1,h2⟩ hno
   rfl
  obtain⟨e,he,h1,h2⟩:=this;have hlt:=qpM (S:=qa0 L k (qa8 a)) (T:=qbb L (qa0 L k (qa8 a))) (fun x hx=>qcL L hx) (List.range n) e.2.toNat (List.mem_range.2 (qkQ hE he).2) h2 (qkX L he h1);show k+1+1≤((List.range n).filter (qbb L (qa0 L k (qa8 a)))).length;unfold cnt at h;omega
theorem qjO:∀k x,qa0 L k (qa8 a) x=true→Rch L a x:=by
 intro k
 induction k with
 |zero =>
  intro x h;have h:qa8 a x=true:=h;unfold qa8 qji at h;split at h
  ·rename_i c;subst c;exact Rch.refl _ _
  cases h
 |succ k ih =>
  intro x h;exact qeX (fun x=>Rch L a x) L (S:=qa0 L k (qa8 a)) ih (fun e he h1=>h1.trans (Rch.edge he)) x h
theorem qkV (h:S x=true):∀k,qa0 L k S x=true:=by
 intro k
 induction k with
 |zero=>exact h
 |succ k ih=>exact qcL L ih
theorem qlw (hE:qaO n L=true)(ha:a<n):qaZ n L a b=true↔Rch L a b:=by
 constructor
 ·exact qjO n b
 intro h;have hs:Shut L (qa0 L n (qa8 a)):=by
  rcases qkA hE ha n with h|h
  ·exact h
  have:=qww n (qa0 L n (qa8 a));omega
 exact h (fun x=>qa0 L n (qa8 a) x=true) (qkV (by simp[qa8,qji]) n) hs
theorem qp4 (hE:qaO n L=true)(ha:a<n)(hb:b<n):qcF n L a b=qaZ n L a b:=by
 rw[Bool.eq_iff_iff,qq6 hE ha hb,qlw hE ha]
theorem qpK (hE:qaO n L=true)(ha:a<n):qaZ n L a a=true:=(qlw hE ha).2 (Rch.refl _ _)
def qd3 (n:Nat)(m:Nat→Nat→Bool)(a b:Nat):Bool:=decide (n=n)&&(!(a==b)&&m a b&&m b a)
def qbz (n:Nat)(m:Nat→Nat→Bool):Bool:=(List.range n).all fun a=>(List.range n).all fun b => !qd3 n m a b
theorem qfP (ha:a<n)(hb:b<n)(h:qd3 n m a b=true):qbz n m=false:=by
 unfold qbz;rw[List.all_eq_false];refine⟨a,List.mem_range.2 ha,?_⟩;rw[Bool.not_eq_true,List.all_eq_false];exact⟨b,List.mem_range.2 hb,by rw[h];decide⟩
theorem qeP (h:∀a b,a<n→b<n→qd3 n m a b=false):qbz n m=true:=by
 unfold qbz;rw[List.all_eq_true];intro a ha;rw[List.all_eq_true];intro b hb;rw[h a b (List.mem_range.1 ha) (List.mem_range.1 hb)];rfl
def qb5 (n:Nat)(m:Nat→Nat→Bool)(a b:Nat):Bool:=qa1 n m a b&&qa1 n (fun i j=>m j i) a b
def qb6 (n:Nat)(m:Nat→Nat→Bool):Bool:=(List.range n).all fun a=>(List.range n).all fun b=>qb5 n m a b
theorem qdM (ha:a<n)(hb:b<n)(h:qb5 n m a b=false):qb6 n m=false:=by
 unfold qb6;rw[List.all_eq_false];refine⟨a,List.mem_range.2 ha,?_⟩;rw[Bool.not_eq_true,List.all_eq_false];exact⟨b,List.mem_range.2 hb,by rw[h];decide⟩
theorem qeV (h:∀a b,a<n→b<n→qb5 n m a b=true):qb6 n m=true:=by
 unfold qb6;rw[List.all_eq_true];intro a ha;rw[List.all_eq_true];intro b hb;exact h a b (List.mem_range.1 ha) (List.mem_range.1 hb)
theorem qpX (H:qi4 arr n L ea ecap)(a b:Nat)(ha:a<n)(hb:b<n)(h:qbM s W0 arr ea L W):Calls prog 127 #[.agg arr,.int .i64 a,.int .i64 b] W fun e w'=>∃r:Int,e=.returned (.int .i64 r)∧Hid (decide (r<0) = !qa1 n (qaZ n L) a b)∧qbM s W0 arr ea L w' :=
 (qrs arr n L ea ecap H a b ha hb W h.edges).mono fun _ _ ⟨r,he,hr,hb'⟩=>⟨r,he,hr,h.step hb'⟩
theorem qsn (H:qi4 arr n L ea ecap)(a b:Nat)(ha:a<n)(hb:b<n)(h:qbM s W0 arr ea L W):Calls prog 128 #[.agg arr,.int .i64 a,.int .i64 b] W fun e w'=>∃r:Int,e=.returned (.int .i64 r)∧Hid (decide (r<0) = !qa1 n (fun i j=>qaZ n L j i) a b)∧qbM s W0 arr ea L w' :=
 (qrO arr n L ea ecap H a b ha hb W h.edges).mono fun _ _ ⟨r,he,hr,hb'⟩=>⟨r,he,hr,h.step hb'⟩
theorem qli (arr:Array Value)(n:Nat)(L:List (Int×Int))(ea:Option Addr)(ecap:Nat)(H:qi4 arr n L ea ecap)(w:World)(hA:qaY w ea L):Calls prog 77 #[.agg arr] w fun e w'=>e=.returned (.bool (qbz n (qaZ n L)))∧Below w.heap.size w w':=by
 have f0:=H.cfg.f0;have hn:=H.hn;have HI:=qaa (qaV H.cfg.size);have HR:=qaa H;have HX0:=qaa (qfv w arr ea L hA);have HB0:Hid (Below w.heap.size w (w.alloc (.cells arr 45))):=bwA;go_enter func77,ntmps77;go_wp2;generalize w.alloc (.cells arr 45)=W0 at *
 go_loopg [3,4] n (fun g x y wr=>∃k:Nat,Hid (k+g=n)∧x=.int .i64 k∧Hid (qbM w.heap.size W0 arr ea L wr)∧Hid (∀a b,a<k→b<n→qd3 n (qaZ n L) a b=false))
 case atStart=>exact⟨0,by show _=_;omega,rfl,HX0,fun a b ha=>by omega⟩
 case round =>
  obtain⟨k,hk,rfl,HX,HL⟩:=hrel;have hc0:=(HX.out.cell 0).trans f0
  cases gk with
  |zero =>
   have hlt:¬(k:Int)<n:=by have:=hk.out;omega
   go_wp2;go_ret;exact⟨by rw[qeP (fun a b ha hb=>HL.out a b (by have:=hk.out;omega) hb)];rfl,HX.out.from_ HB0.out⟩
  |succ g =>
   have hlt:(k:Int)<n:=by have:=hk.out;omega
   go_wp2
   go_loopg [4] n (fun g x wr=>∃q:Nat,Hid (q+g=n)∧x=.int .i64 q∧Hid (qbM w.heap.size W0 arr ea L wr)∧Hid (∀b,b<q→qd3 n (qaZ n L) k b=false))
   case atStart=>exact⟨0,by show _=_;omega,rfl,HX,fun b hb=>by omega⟩
   case round =>
    obtain⟨q,hq,rfl,HX,HQ⟩:=hrel;have hc0:=(HX.out.cell 0).trans f0
    cases gk with
    |zero =>
     have hql:¬(q:Int)<n:=by have:=hq.out;omega
     go_wp2;go_roundg g
     case measure=>omega
     case rel =>
      refine⟨k+1,by show _=_;have:=hk.out;omega,by go_num,HX,fun a b ha hb => ?_⟩;by_cases e:a=k
      ·subst e;exact HQ.out b (by have:=hq.out;omega)
      exact HL.out a b (by omega) hb
    |succ g2 =>
     have hql:(q:Int)<n:=by have:=hq.out;omega
     by_cases hkq:k=q
     ·have HF:Hid (qd3 n (qaZ n L) k q=false):=by show _=_;unfold qd3;simp[hkq]
      have hne:((k:Int)==q)=true:=beq_iff_eq.2 (by omega);have hne2:((k:Int) != q)=false:=by rw[bne_eq_false_iff_eq];omega
      go_wp2;go_roundg g2
      case measure=>omega
      case rel =>
       refine⟨q+1,by show _=_;have:=hq.out;omega,by go_num,HX,fun b hb => ?_⟩;by_cases e:b=q
       ·subst e;exact HF.out
       exact HQ.out b (by omega)
     have hne:((k:Int)==q)=false:=beq_eq_false_iff_ne.2 (by omega);have hne2:((k:Int) != q)=true:=by rw[bne_iff_ne];omega
     have HKQ:=qaa (beq_eq_false_iff_ne.2 hkq);cases e1:qaZ n L k q
     ·have HF:Hid (qd3 n (qaZ n L) k q=false):=by show _=_;unfold qd3;simp[e1]
      go_wp2_with (first
       |(refine wpList_load_row rfl 45 _ rfl _ rfl _ _ _ _ HX.out.box underlying45 rfl HI.out ?_)
       |(refine qaf 45 _ rfl rfl _ rfl _ _ _ _ HX.out.box underlying45 rfl HI.out ?_)
       |(go_at_call 126;refine(qdm HR.out _ _ (by omega) (by omega) HX.out).mono ?_;rintro e w2 ⟨rfl,hX2⟩;have HX:=qaa hX2))
      go_roundg g2
      case measure=>omega
      case rel =>
       refine⟨q+1,by show _=_;have:=hq.out;omega,by go_num,HX,fun b hb => ?_⟩;by_cases e:b=q
       ·subst e;exact HF.out
       exact HQ.out b (by omega)
     cases e2:qaZ n L q k
     ·have HF:Hid (qd3 n (qaZ n L) k q=false):=by show _=_;unfold qd3;simp[e2]
      go_wp2_with (first
       |(refine wpList_load_row rfl 45 _ rfl _ rfl _ _ _ _ HX.out.box underlying45 rfl HI.out ?_)
       |(refine qaf 45 _ rfl rfl _ rfl _ _ _ _ HX.out.box underlying45 rfl HI.out ?_)
       |(go_at_call 126;refine(qdm HR.out _ _ (by omega) (by omega) HX.out).mono ?_;rintro e w2 ⟨rfl,hX2⟩;have HX:=qaa hX2))
      go_roundg g2
      case measure=>omega
      case rel =>
       refine⟨q+1,by show _=_;have:=hq.out;omega,by go_num,HX,fun b hb => ?_⟩;by_cases e:b=q
       ·subst e;exact HF.out
       exact HQ.out b (by omega)
     have HF:Hid (qd3 n (qaZ n L) k q=true):=by show _=_;unfold qd3;rw[e1,e2,HKQ.out];simp
     go_wp2_with (first
      |(refine wpList_load_row rfl 45 _ rfl _ rfl _ _ _ _ HX.out.box underlying45 rfl HI.out ?_)
      |(refine qaf 45 _ rfl rfl _ rfl _ _ _ _ HX.out.box underlying45 rfl HI.out ?_)
      |(go_at_call 126;refine(qdm HR.out _ _ (by omega) (by omega) HX.out).mono ?_;rintro e w2 ⟨rfl,hX2⟩;have HX:=qaa hX2))
     go_ret;exact⟨by rw[qfP (a:=k) (b:=q) (by omega) (by omega) HF.out];rfl,HX.out.from_ HB0.out⟩
theorem qku (arr:Array Value)(n:Nat)(L:List (Int×Int))(ea:Option Addr)(ecap:Nat)(H:qi4 arr n L ea ecap)(w:World)(hA:qaY w ea L):Calls prog 78 #[.agg arr] w fun e w'=>e=.returned (.bool (qb6 n (qaZ n L)))∧Below w.heap.size w w':=by
 have f0:=H.cfg.f0;have hn:=H.hn;have HI:=qaa (qaV H.cfg.size);have HR:=qaa H;have HX0:=qaa (qfv w arr ea L hA);have HB0:Hid (Below w.heap.size w (w.alloc (.cells arr 45))):=bwA;go_enter func78,ntmps78;go_wp2;generalize w.alloc (.cells arr 45)=W0 at *
 go_loopg [3,4] n (fun g x y wr=>∃k:Nat,Hid (k+g=n)∧x=.int .i64 k∧Hid (qbM w.heap.size W0 arr ea L wr)∧Hid (∀a b,a<k→b<n→qb5 n (qaZ n L) a b=true))
 case atStart=>exact⟨0,by show _=_;omega,rfl,HX0,fun a b ha=>by omega⟩
 case round =>
  obtain⟨k,hk,rfl,HX,HL⟩:=hrel;have hc0:=(HX.out.cell 0).trans f0
  cases gk with
  |zero =>
   have hlt:¬(k:Int)<n:=by have:=hk.out;omega
   go_wp2;go_ret;exact⟨by rw[qeV (fun a b ha hb=>HL.out a b (by have:=hk.out;omega) hb)];rfl,HX.out.from_ HB0.out⟩
  |succ g =>
   have hlt:(k:Int)<n:=by have:=hk.out;omega
   go_wp2
   go_loopg [4] n (fun g x wr=>∃q:Nat,Hid (q+g=n)∧x=.int .i64 q∧Hid (qbM w.heap.size W0 arr ea L wr)∧Hid (∀b,b<q→qb5 n (qaZ n L) k b=true))
   case atStart=>exact⟨0,by show _=_;omega,rfl,HX,fun b hb=>by omega⟩
   case round =>
    obtain⟨q,hq,rfl,HX,HQ⟩:=hrel;have hc0:=(HX.out.cell 0).trans f0
    cases gk with
    |zero =>
     have hql:¬(q:Int)<n:=by have:=hq.out;omega
     go_wp2;go_roundg g
     case measure=>omega
     case rel =>
      refine⟨k+1,by show _=_;have:=hk.out;omega,by go_num,HX,fun a b ha hb => ?_⟩;by_cases e:a=k
      ·subst e;exact HQ.out b (by have:=hq.out;omega)
      exact HL.out a b (by omega) hb
    |succ g2 =>
     have hql:(q:Int)<n:=by have:=hq.out;omega
     cases e1:qa1 n (qaZ n L) k q
     ·have HF:Hid (qb5 n (qaZ n L) k q=false):=by show _=_;unfold qb5;rw[e1];rfl
      have HE1:=qaa e1
      go_wp2_with (first
       |(refine wpList_load_row rfl 45 _ rfl _ rfl _ _ _ _ HX.out.box underlying45 rfl HI.out ?_)
       |(refine qaf 45 _ rfl rfl _ rfl _ _ _ _ HX.out.box underlying45 rfl HI.out ?_)
       |(go_at_call 127;refine(qpX HR.out k q (by omega) (by omega) HX.out).mono ?_;rintro e w2 ⟨r,rfl,hr,hX2⟩;have HX:=qaa hX2;have hneg:decide (r<0)=true:=(by rw[hr.out,HE1.out];rfl)))
      go_ret;exact⟨by rw[qdM (a:=k) (b:=q) (by omega) (by omega) HF.out];rfl,HX.out.from_ HB0.out⟩
     cases e2:qa1 n (fun i j=>qaZ n L j i) k q
     ·have HF:Hid (qb5 n (qaZ n L) k q=false):=by show _=_;unfold qb5;rw[e1,e2];rfl
      have HE1:=qaa e1;have HE2:=qaa e2
      go_wp2_with (first
       |(refine wpList_load_row rfl 45 _ rfl _ rfl _ _ _ _ HX.out.box underlying45 rfl HI.out ?_)
       |(refine qaf 45 _ rfl rfl _ rfl _ _ _ _ HX.out.box underlying45 rfl HI.out ?_)
       |(go_at_call 127;refine(qpX HR.out k q (by omega) (by omega) HX.out).mono ?_;rintro e w2 ⟨r,rfl,hr,hX2⟩;have HX:=qaa hX2;have hpos:decide (r<0)=false:=(by rw[hr.out,HE1.out];rfl))
       |(go_at_call 128;refine(qsn HR.out k q (by omega) (by omega) HX.out).mono ?_;rintro e w2 ⟨r,rfl,hr,hX2⟩;have HX:=qaa hX2;have hneg:decide (r<0)=true:=(by rw[hr.out,HE2.out];rfl)))
      go_ret;exact⟨by rw[qdM (a:=k) (b:=q) (by omega) (by omega) HF.out];rfl,HX.out.from_ HB0.out⟩
     have HF:Hid (qb5 n (qaZ n L) k q=true):=by show _=_;unfold qb5;rw[e1,e2];rfl
     have HE1:=qaa e1;have HE2:=qaa e2
     go_wp2_with (first
      |(refine wpList_load_row rfl 45 _ rfl _ rfl _ _ _ _ HX.out.box underlying45 rfl HI.out ?_)
      |(refine qaf 45 _ rfl rfl _ rfl _ _ _ _ HX.out.box underlying45 rfl HI.out ?_)
      |(go_at_call 127;refine(qpX HR.out k q (by omega) (by omega) HX.out).mono ?_;rintro e w2 ⟨r,rfl,hr,hX2⟩;have HX:=qaa hX2;have hpos:decide (r<0)=false:=(by rw[hr.out,HE1.out];rfl))
      |(go_at_call 128;refine(qsn HR.out k q (by omega) (by omega) HX.out).mono ?_;rintro e w2 ⟨r,rfl,hr,hX2⟩;have HX:=qaa hX2;have hpos:decide (r<0)=false:=(by rw[hr.out,HE2.out];rfl)))
     go_roundg g2
     case measure=>omega
     case rel =>
      refine⟨q+1,by show _=_;have:=hq.out;omega,by go_num,HX,fun b hb => ?_⟩;by_cases e:b=q
      ·subst e;exact HF.out
      exact HQ.out b (by omega)
theorem qv5 (c:Int)(L:List (Int×Int))(a:Option Addr)(cap:Nat)(hL:L.length≤maxLen)(w:World)(hE:qaY w a L)(h:qbx c L=false):Calls prog 131 #[.int .i64 c,.slice a L.length cap] w fun e w'=>e=.returned (.tuple #[.agg qaB,.bool false])∧Below w.heap.size w w':=by
 by_cases hc:1≤c∧c≤6∧L.length≤30
 ·obtain⟨n,rfl⟩:=Int.eq_ofNat_of_zero_le (show 0≤c by omega);have he:qaO n L=false:=by
   unfold qbx at h;rw[decide_eq_true hc,Bool.true_and] at h;exact h
  refine(qsi n (by omega) (by omega) L a cap hc.2.2 w hE).mono ?_;rintro e w' ⟨rfl,hb⟩;exact⟨by rw[qhG he],hb⟩
 exact quQ c L a cap hL w hc
theorem qtw (c:Int)(L:List (Int×Int))(a:Option Addr)(cap:Nat)(w:World)(hE:qaY w a L)(h:qbx c L=true):Calls prog 131 #[.int .i64 c,.slice a L.length cap] w fun e w'=>e=.returned (.tuple #[.agg (qan c.toNat (qcF c.toNat L)),.bool true])∧Below w.heap.size w w':=by
 unfold qbx at h;rw[Bool.and_eq_true] at h;have hc:=of_decide_eq_true h.1;obtain⟨n,rfl⟩:=Int.eq_ofNat_of_zero_le (show 0≤c by omega);refine(qsi n (by omega) (by omega) L a cap hc.2.2 w hE).mono ?_;rintro e w' ⟨rfl,hb⟩;have h2:qaO n L=true:=by have:=h.2;rwa [Int.toNat_natCast] at this
 exact⟨by rw[qlN h2,Int.toNat_natCast],hb⟩
def roE (c:Int)(L:List (Int×Int))(d k:Int):Int :=
 if qbx c L&&qbC c.toNat d&&qbC c.toNat k then (if qa7 c.toNat (qcF c.toNat L) then 2 else if qa6 c.toNat (qcF c.toNat L) then 0 else 3) else 1
def roA (c:Int)(L:List (Int×Int))(d k:Int):Array Value:=if roE c L d k=0 then qan c.toNat (qcF c.toNat L) else qaB
def roV (c:Int)(L:List (Int×Int))(d k:Int):Value:=.tuple #[.agg (roA c L d k),.int .i64 (roE c L d k)]
theorem qut {k:Int}(h:(qbx c L&&qbC c.toNat d&&qbC c.toNat k)=false):roV c L d k=.tuple #[.agg qaB,.int .i64 1]:=by
 have e:roE c L d k=1:=by unfold roE;rw[h];rfl
 unfold roV roA;rw[e];rfl
theorem qwT {k:Int}(h:(qbx c L&&qbC c.toNat d&&qbC c.toNat k)=true)(h2:qa7 c.toNat (qcF c.toNat L)=true):roV c L d k=.tuple #[.agg qaB,.int .i64 2]:=by
 have e:roE c L d k=2:=by unfold roE;rw[h,h2];rfl
 unfold roV roA;rw[e];rfl
theorem qxp {k:Int}(h:(qbx c L&&qbC c.toNat d&&qbC c.toNat k)=true)(h2:qa7 c.toNat (qcF c.toNat L)=false)(h3:qa6 c.toNat (qcF c.toNat L)=false):roV c L d k=.tuple #[.agg qaB,.int .i64 3]:=by
 have e:roE c L d k=3:=by unfold roE;rw[h,h2,h3];rfl
 unfold roV roA;rw[e];rfl
theorem qxe {k:Int}(h:(qbx c L&&qbC c.toNat d&&qbC c.toNat k)=true)(h2:qa7 c.toNat (qcF c.toNat L)=false)(h3:qa6 c.toNat (qcF c.toNat L)=true):roV c L d k=.tuple #[.agg (qan c.toNat (qcF c.toNat L)),.int .i64 0]:=by
 have e:roE c L d k=0:=by unfold roE;rw[h,h2,h3];rfl
 unfold roV roA;rw[e];rfl
structure qqk (w:World)(N:Nat)(arr A:Array Value)(W:World):Prop where
 below:Below w.heap.size w W
 box:W.heap[w.heap.size]? = some (.cells arr 45)
 res:W.heap[w.heap.size+1]? = some (.cells qaB 107)
 own:W.heap[N]? = some (.cells A 107)
 lo:w.heap.size+1<N
theorem qqk.step {w:World}{N:Nat}{A:Array Value}{W':World}(h:qqk w N arr A W)(hb:Below W.heap.size W W'):qqk w N arr A W':=by
 have hN:=ltA h.own;have:=h.lo;exact⟨h.below.trans (hb.mono h.below.size),(hb.block _ (by omega)).trans h.box,(hb.block _ (by omega)).trans h.res,(hb.block _ hN).trans h.own,h.lo⟩
theorem qpo (w w2:World)(arr A:Array Value)(hb:Below (w.heap.size+1+1) ((w.alloc (.cells arr 45)).alloc (.cells qaB 107)) w2):qqk w w2.heap.size arr A (w2.alloc (.cells A 107)):=by
 have hz:=hb.size;simp only[World.size_alloc] at hz;refine⟨(((bwA).alloc (by simp) _).trans (hb.mono (by omega))).alloc (by omega) _,?_,?_,qac _ _,by omega⟩
 ·rw[Below.heap_alloc _ _ _ (by omega),hb.block _ (by omega),Below.heap_alloc _ _ _ (by simp)];exact qac _ _
 rw[Below.heap_alloc _ _ _ (by omega),hb.block _ (by omega)];have:=qac (w.alloc (.cells arr 45)) (.cells qaB 107);rwa [World.size_alloc] at this
theorem qiE (arr:Array Value)(c:Int)(L:List (Int×Int))(ea:Option Addr)(ecap:Nat)(d k:Int)(f0:arr[0]? = some (.int .i64 c))(f1:arr[1]? = some (.slice ea L.length ecap))(f2:arr[2]? = some (.int .i64 d))(f4:arr[4]? = some (.int .i64 k))(hL:L.length≤maxLen)(w:World)(hE:qaY w ea L):Calls prog 81 #[.agg arr] w fun e w'=>e=.returned (roV c L d k)∧Below w.heap.size w w':=by
 have HE2:Hid (qaY ((w.alloc (.cells arr 45)).alloc (.cells qaB 107)) ea L):=hE.below ((bwA).alloc (by simp) _);have HL:=qaa hL;clear hE hL;cases hnew:qbx c L
 ·have HF:Hid (roV c L d k=.tuple #[.agg qaB,.int .i64 1]):=qut (by rw[hnew];rfl);have cN:=qv5 c L ea ecap HL.out _ HE2.out hnew;clear hnew;go_enter func81,ntmps81
  go_wp2_with (first
   |(refine qas rfl rfl _ rfl (w.heap.size+1) ?hN ?_;case hN=>(simp only[World.size_alloc];done))
   |(go_at_call 131;refine cN.mono ?_;clear cN;rintro e w2 ⟨rfl,hB2⟩;have HT:=qaa (qpo w w2 arr qaB (by simpa using hB2)))
   |(refine qas rfl rfl _ rfl w2.heap.size rfl ?_)
   |(refine qak rfl 107 _ rfl _ rfl _ [] ?hl qbE ?_;case hl=>simp)
   |(refine wpList_store_row rfl 107 _ _ rfl w2.heap.size qaB rfl rfl 107 qaB (qac w2 _) (qar (qae _ _)) rfl (qa5 _ _) ?_;rw[World.setRow_alloc_new])
   |(refine wpList_store_row rfl 107 _ _ rfl (w.heap.size+1) qaB rfl rfl 107 qaB HT.out.res (qar (qae _ _)) rfl (qa5 _ _) ?_))
  refine bodyPost_ret (qap results81 _ _ (w.heap.size+1) 107 qaB (0,0) _ rfl (setRow_heap _ _ qaB _ _ _ HT.out.res) underlying107 rfl (qar (qae _ _)) (.int .i64 1) rfl) rfl ⟨by rw[HF.out],qah HT.out.below (by omega) _⟩
 have cN:=qtw c L ea ecap _ HE2.out hnew;have HNN:=qaa hnew;have hcb:1≤c∧c≤6:=by
  unfold qbx at hnew;rw[Bool.and_eq_true] at hnew;have:=of_decide_eq_true hnew.1;omega
 clear hnew;obtain⟨n,rfl⟩:=Int.eq_ofNat_of_zero_le (show 0≤c by omega);have hn:n≤6:=by omega
 rw[Int.toNat_natCast] at cN;have HT:Hid (∀x,qbC ((n:Int)).toNat x=qbC n x):=fun x=>by rw[Int.toNat_natCast]
 have HM:Hid (qcF ((n:Int)).toNat L=qcF n L):=by show _=_;rw[Int.toNat_natCast]
 have HC:Hid (qa7 ((n:Int)).toNat (qcF ((n:Int)).toNat L)=qa7 n (qcF n L)):=by show _=_;rw[Int.toNat_natCast]
 have HD:Hid (qa6 ((n:Int)).toNat (qcF ((n:Int)).toNat L)=qa6 n (qcF n L)):=by show _=_;rw[Int.toNat_natCast]
 have HA:Hid (qan ((n:Int)).toNat (qcF ((n:Int)).toNat L)=qan n (qcF n L)):=by show _=_;rw[Int.toNat_natCast]
 generalize qcF n L=M at *;have hW:(qbC n d=false∧Hid (roV n L d k=.tuple #[.agg qaB,.int .i64 1]))∨(qbC n d=true∧qbC n k=false∧Hid (roV n L d k=.tuple #[.agg qaB,.int .i64 1]))∨(qbC n d=true∧qbC n k=true∧qa7 n M=true∧Hid (roV n L d k=.tuple #[.agg qaB,.int .i64 2]))∨(qbC n d=true∧qbC n k=true∧qa7 n M=false∧qa6 n M=false∧Hid (roV n L d k=.tuple #[.agg qaB,.int .i64 3]))∨(qbC n d=true∧qbC n k=true∧qa7 n M=false∧qa6 n M=true∧Hid (roV n L d k=.tuple #[.agg (qan n M),.int .i64 0])):=by
  cases hd:qbC n d
  ·exact .inl ⟨rfl,qut (by rw[HT.out,HT.out,hd];simp)⟩
  cases hk:qbC n k
  ·exact .inr (.inl ⟨rfl,rfl,qut (by rw[HT.out,HT.out,hk];simp)⟩)
  have HG:(qbx n L&&qbC ((n:Int)).toNat d&&qbC ((n:Int)).toNat k)=true:=by rw[HT.out,HT.out,hd,hk,HNN.out];rfl
  cases hcy:qa7 n M
  ·cases hla:qa6 n M
   ·exact .inr (.inr (.inr (.inl ⟨rfl,rfl,rfl,rfl,qxp HG (HC.out.trans hcy) (HD.out.trans hla)⟩)))
   exact .inr (.inr (.inr (.inr ⟨rfl,rfl,rfl,rfl,(qxe HG (HC.out.trans hcy) (HD.out.trans hla)).trans (by rw[HA.out])⟩)))
  exact .inr (.inr (.inl ⟨rfl,rfl,rfl,qwT HG (HC.out.trans hcy)⟩))
 clear HT HM HC HD HA HNN;have T1:True:=trivial;have T2:=T1;have T3:=T1;have T4:=T1;rcases hW with ⟨hd,HF⟩|⟨hd,hk,HF⟩|⟨hd,hk,hcy,HF⟩|⟨hd,hk,hcy,hla,HF⟩|⟨hd,hk,hcy,hla,HF⟩
 all_goals
  go_enter func81,ntmps81
  go_wp2_with (first
   |(refine qas rfl rfl _ rfl (w.heap.size+1) ?hN ?_;case hN=>(simp only[World.size_alloc];done))
   |(go_at_call 131;refine cN.mono ?_;clear cN;rintro e w2 ⟨rfl,hB2⟩;have HX:Hid (qqk w w2.heap.size arr (qan n M) (w2.alloc (.cells (qan n M) 107))):=qpo w w2 arr _ (by simpa using hB2);have hc2:=(qab HX.out.box 2).trans f2)
   |(refine qas rfl rfl _ rfl w2.heap.size rfl ?_)
   |(refine wpList_store_row rfl 107 _ _ rfl w2.heap.size (qan n M) rfl rfl 107 qaB (qac w2 _) (qar (qae _ _)) (by rw[qae];exact qae _ _) (qa5 _ _) ?_;rw[World.setRow_alloc_new])
   |(refine wpList_load_row rfl 107 _ rfl _ rfl _ _ _ _ HX.out.own underlying107 rfl (qar (qae _ _)) ?_)
   |(refine qaf 107 _ rfl rfl _ rfl _ _ _ _ HX.out.own underlying107 rfl (qar (qae _ _)) ?_)
   |(refine qak rfl 107 _ rfl _ rfl _ [] ?hl qbE ?_;case hl=>simp)
   |(go_at_call 132;clear T1;refine(qe9 _ n (qaw n M).count d _).mono ?_;rintro e w3 ⟨rfl,hB3⟩;have HX3:=HX.out.step hB3;clear HX hc2;have HX:=qaa HX3;clear HX3 hB3;have hc2:=(qab HX.out.box 4).trans f4)
   |(go_at_call 132;clear T2;refine(qe9 _ n (qaw n M).count k _).mono ?_;rintro e w3 ⟨rfl,hB3⟩;have HX3:=HX.out.step hB3;clear HX hc2;have HX:=qaa HX3;clear HX3 hB3;have hc2:=(qab HX.out.box 4).trans f4)
   |(go_at_call 133;clear T3;refine(qjQ _ n M (qaw n M) hn _).mono ?_;rintro e w3 ⟨rfl,hB3⟩;have HX3:=HX.out.step hB3;clear HX hc2;have HX:=qaa HX3;clear HX3 hB3;have hc2:=(qab HX.out.box 4).trans f4)
   |(go_at_call 134;clear T4;refine(qiv _ n M (qaw n M) hn _).mono ?_;rintro e w3 ⟨rfl,hB3⟩;have HX3:=HX.out.step hB3;clear HX hc2;have HX:=qaa HX3;clear HX3 hB3;have hc2:=(qab HX.out.box 4).trans f4)
   |(refine wpList_store_row rfl 107 _ _ rfl (w.heap.size+1) qaB rfl rfl 107 qaB HX.out.res (qar (qae _ _)) rfl (qa5 _ _) ?_)
   |(refine wpList_store_row rfl 107 _ _ rfl (w.heap.size+1) (qan n M) rfl rfl 107 qaB HX.out.res (qar (qae _ _)) (by rw[qae];exact qae _ _) (qa5 _ _) ?_))
  first
  |refine bodyPost_ret (qap results81 _ _ (w.heap.size+1) 107 qaB (0,0) _ rfl (setRow_heap _ _ qaB _ _ _ HX.out.res) underlying107 rfl (qar (qae _ _)) (.int .i64 _) rfl) rfl ⟨by rw[HF.out],qah HX.out.below (by omega) _⟩
  |refine bodyPost_ret (qap results81 _ _ (w.heap.size+1) 107 (qan n M) (0,0) _ rfl (setRow_heap _ _ qaB _ _ _ HX.out.res) underlying107 rfl (qar (qae _ _)) (.int .i64 0) rfl) rfl ⟨by rw[HF.out],qah HX.out.below (by omega) _⟩
end
end Go.Proofs.YtllcbnfmihfaaaaGreatDoor
