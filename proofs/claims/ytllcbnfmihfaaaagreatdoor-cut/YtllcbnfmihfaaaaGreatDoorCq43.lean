import Derived.Test.YtllcbnfmihfaaaaGreatDoorCq42
set_option maxRecDepth 100000
set_option maxHeartbeats 8000000
namespace Go.Proofs.YtllcbnfmihfaaaaGreatDoor
open Go.Proofs.Tryz
variable {V:World}{N k:Nat}{F:Nat→Prop}{v:Value}{c:Rc}{R:Rep}{sts:List ((Nat→Nat)×Int×Int)}{p:List (List UInt8×Bool)}{d:DataW Unit}{A:Array Value}
section
open Go.RowKit Go.Lib
theorem qkP (a:Option Addr)(n c:Nat):∀w:World,(Instr.typeAssert (.iface 202 (.slice a n c)) 81 204 true).run prog w=.ok (.tuple #[.slice none 0 0,.bool false]) w:=fun w=>by kernel_rfl
theorem qmn (a:Option Addr)(n c:Nat):∀w:World,(Instr.typeAssert (.iface 202 (.slice a n c)) 81 206 true).run prog w=.ok (.tuple #[.slice none 0 0,.bool false]) w:=fun w=>by kernel_rfl
theorem qoE (B f:Nat)(t:TypeId)(y:Value)(h1:∀w:World,(Instr.typeAssert (.iface t y) 81 204 true).run prog w=.ok (.tuple #[.slice none 0 0,.bool false]) w)(h2:∀w:World,(Instr.typeAssert (.iface t y) 81 206 true).run prog w=.ok (.tuple #[.slice none 0 0,.bool false]) w)(W:World):Calls prog 189 #[.pointer (some ⟨B,0,none⟩),.iface t y,.int .i64 f] W fun e W'=>e=.returned (.iface t y)∧W'=W:=by
 go_enter func189,ntmps189;go_wp2;go_ret;exact⟨rfl,rfl⟩
def qiY (c:Rc)(k:Nat)(F:Nat→Prop)(r:DataW Unit×Rep)(M:Nat)(sts:List ((Nat→Nat)×Int×Int))(V:World)(e:Ending)(V':World):Prop :=
 ∃(v':Value) (sts':List ((Nat→Nat)×Int×Int)),e=.returned v'∧qcy c r.2 M sts' V'∧KpR V V'∧Pre sts sts'∧qai k V' (fun j=>F j∨(V.heap.size≤j∧j<V'.heap.size)) v' r.1
theorem qoZ (B f:Nat)(a:Option Addr)(n m:Nat)(W:World)(c:Rc)(k:Nat)(F:Nat→Prop)(r:DataW Unit×Rep)(M:Nat)(sts:List ((Nat→Nat)×Int×Int))(cS:Calls prog 219 #[.pointer (some ⟨B,0,none⟩),.slice a n m,.int .i64 f] W (ql5 c k F 204 r M sts W)):Calls prog 189 #[.pointer (some ⟨B,0,none⟩),.iface 204 (.slice a n m),.int .i64 f] W (qiY c k F r M sts W):=by
 have h1:=qho a n m;go_enter func189,ntmps189
 go_wp2_with (first
  |(go_at_call 219;refine cS.mono ?_;rintro e w2 ⟨a2,n2,m2,sts2,rfl,k1,k2,k3,k4⟩))
 go_ret;exact⟨_,sts2,rfl,k1,k2,k3,k4⟩
theorem qrH (B f:Nat)(a:Option Addr)(n m:Nat)(W:World)(c:Rc)(k:Nat)(F:Nat→Prop)(r:DataW Unit×Rep)(M:Nat)(sts:List ((Nat→Nat)×Int×Int))(cS:Calls prog 220 #[.pointer (some ⟨B,0,none⟩),.slice a n m,.int .i64 f] W (ql5 c k F 206 r M sts W)):Calls prog 189 #[.pointer (some ⟨B,0,none⟩),.iface 206 (.slice a n m),.int .i64 f] W (qiY c k F r M sts W):=by
 have h1:=qjk a n m;have h2:=qmd a n m;go_enter func189,ntmps189
 go_wp2_with (first
  |(go_at_call 220;refine cS.mono ?_;rintro e w2 ⟨a2,n2,m2,sts2,rfl,k1,k2,k3,k4⟩))
 go_ret;exact⟨_,sts2,rfl,k1,k2,k3,k4⟩
theorem qb1.slice {t:TypeId}{size n:Nat}{xs:List Value}(h:qb1 V t size F v n xs):∃q cap,v=.slice q n cap:=by
 rcases h.2 with ⟨e,e2⟩|⟨g,cap,cur,e,_⟩
 ·exact⟨none,0,by rw[e,e2]⟩
 exact⟨_,_,e⟩
theorem qr2 (c:Rc)(ok:qkl c)(k:Nat)(ih:qvb c k)(W:World)(F:Nat→Prop)(x:Value)(d:DataW Unit)(p:List (List UInt8×Bool))(f:Nat)(R:Rep)(N:Nat)(sts:List ((Nat→Nat)×Int×Int))(h:qcy c R N sts W)(hf:StF c sts f p)(hF:∀j,F j→j<W.heap.size)(hd:qai (k+1) W F x d)(hc:(qaU (k+1) d).length≤999999999)(hN:N+ndF (k+1) d≤90001):Calls prog 189 #[.pointer (some ⟨c.B,0,none⟩),x,.int .i64 f] W (qiY c (k+1) F (shF (rwF c.v k) p d R) (N+ndF (k+1) d-1) sts W):=by
 have hleaf:∀(t:TypeId) (y:Value),x=.iface t y→shF (rwF c.v k) p d R=(d,R)→1≤ndF (k+1) d→(∀w:World,(Instr.typeAssert (.iface t y) 81 204 true).run prog w=.ok (.tuple #[.slice none 0 0,.bool false]) w)→(∀w:World,(Instr.typeAssert (.iface t y) 81 206 true).run prog w=.ok (.tuple #[.slice none 0 0,.bool false]) w)→Calls prog 189 #[.pointer (some ⟨c.B,0,none⟩),x,.int .i64 f] W (qiY c (k+1) F (shF (rwF c.v k) p d R) (N+ndF (k+1) d-1) sts W):=by
  intro t y e1 e2 e3 a1 a2;subst e1;rw[e2];refine(qoE c.B f t y a1 a2 W).mono ?_;rintro e W' ⟨rfl,rfl⟩;exact⟨_,sts,rfl,h.more (by omega),KpR.refl _,Pre.refl _,hd.same (fun _ h=>.inl h) (fun _ _=>rfl)⟩
 have hd0:=hd;unfold qai at hd;split at hd
 ·exact hleaf _ _ hd rfl (Nat.le_refl _) qen qeW
 ·exact hleaf _ _ hd rfl (Nat.le_refl _) (qfB _) (qhc _)
 ·exact hleaf _ _ hd.1 rfl (Nat.le_refl _) (qeS _) (qfC _)
 ·exact hleaf _ _ hd rfl (Nat.le_refl _) (qhp _) (qkf _)
 ·obtain⟨u,e,hr⟩:=hd;obtain⟨q,cap,rfl⟩:=hr.slice;exact hleaf _ _ e rfl (Nat.le_refl _) (qkP _ _ _) (qmn _ _ _)
 ·rename_i ds
  obtain⟨u,xs,rfl,hr,ha⟩:=hd;obtain⟨q,cap,rfl⟩:=hr.slice;have e1:ndF (k+1) (.agg ds)=2+(ds.map fun d=>1+ndF k d).sum:=rfl;have e2:N+ndF (k+1) (.agg ds)-1=N+1+(ds.map fun d=>1+ndF k d).sum:=by omega
  rw[e2];have e3:qaU (k+1) (.agg ds)=qaj 4 ds.length++ds.flatMap (qaU k):=rfl;refine qoZ c.B f q ds.length cap W c (k+1) F _ _ sts (qkg c ok k ih W F _ ds xs p f R N sts h hf hF hr ha ?_ (by omega));rw[e3,List.length_append] at hc;omega
 ·rename_i es
  obtain⟨u,xs,rfl,hr,ha⟩:=hd;obtain⟨q,cap,rfl⟩:=hr.slice;have e1:ndF (k+1) (.map es)=1+(es.map fun e=>2+ndF k e.2).sum:=rfl;have e2:N+ndF (k+1) (.map es)-1=N+(es.map fun e=>2+ndF k e.2).sum:=by omega
  rw[e2];have e3:qaU (k+1) (.map es)=qaj 5 es.length++es.flatMap (fun e=>(qaj 3 (qb7 e.1).length++qb7 e.1)++qaU k e.2):=rfl;refine qrH c.B f q es.length cap W c (k+1) F _ _ sts (qk3 c ok k ih W F _ es xs p f R N sts h hf hF hr ha ?_ (by omega));rw[e3,List.length_append] at hc;omega
 exact hd.elim
theorem qfE (h:qcy c R N sts V)(ok:qkl c)(j:Nat):V.cell? ⟨c.B,37+j,none⟩=#[.int .i64 c.v.clr,.int .i64 c.v.key,.pointer (some ⟨c.A,0,none⟩),.int .i64 R.1,.int .i64 R.2.1,.int .i64 R.2.2.1,.int .i64 R.2.2.2][j]?:=by
 refine(qab h.box (37+j)).trans ?_;unfold rwC;rw[Array.getElem?_append_right (by rw[ok.ord.size];omega),ok.ord.size,show 37+j-37=j by omega]
theorem qnU (h:qcy c R N sts V):∀(j:Nat) (u:Value),c.O[j]? = some u→V.cell? ⟨c.B,0+j,none⟩=some u:=by
 intro j u hu;have hj:=ltA hu;refine(qab h.box (0+j)).trans ?_;rw[Nat.zero_add];unfold rwC;rw[Array.getElem?_append_left hj];exact hu
theorem qiJ (ok:qkl c)(R:Rep)(j:Nat)(v:Value):(rwC c R).setIfInBounds (37+j) v=c.O++#[.int .i64 c.v.clr,.int .i64 c.v.key,.pointer (some ⟨c.A,0,none⟩),.int .i64 R.1,.int .i64 R.2.1,.int .i64 R.2.2.1,.int .i64 R.2.2.2].setIfInBounds j v:=by
 unfold rwC;apply Array.ext';have hs:c.O.toList.length=37:=by simp[ok.ord.size]
 simp only[Array.toList_setIfInBounds,Array.toList_append];rw[List.set_append_right _ _ (by omega),show 37+j-c.O.toList.length=j by omega]
theorem qqZ (ok:qkl c):(prog.info? 107).map (·.size)=some c.O.size:=by rw[ok.ord.size];kernel_rfl
theorem qrY {c:Rv}(hm:c.m (lbF c.dflt c.rs p.reverse).1.toNat c.clr=true):rwF c (k+1) p d R=(some (shF (rwF c k) p d (R.1+1,R.2)).1,(shF (rwF c k) p d (R.1+1,R.2)).2):=by rw[rwF,if_pos hm]
theorem qrP {c:Rv}(hm:¬c.m (lbF c.dflt c.rs p.reverse).1.toNat c.clr=true)(ha:(lbF c.dflt c.rs p.reverse).2=2):rwF c (k+1) p d R=(some (.lit (.string [42,42,42])),(R.1,R.2.1,R.2.2.1+1,R.2.2.2)):=by rw[rwF,if_neg hm,if_pos ha]
theorem qtq {c:Rv}(hm:¬c.m (lbF c.dflt c.rs p.reverse).1.toNat c.clr=true)(ha:(lbF c.dflt c.rs p.reverse).2=3):rwF c (k+1) p d R=(some (.lit (.string (qs5 c.key (lbF c.dflt c.rs p.reverse).1.toNat (qaU (k+1) d)))),(R.1,R.2.1,R.2.2.1,R.2.2.2+1)):=by rw[rwF,if_neg hm,if_neg (by rw[ha];decide),if_pos ha]
theorem qrg {c:Rv}(hm:¬c.m (lbF c.dflt c.rs p.reverse).1.toNat c.clr=true)(h2:¬(lbF c.dflt c.rs p.reverse).2=2)(h3:¬(lbF c.dflt c.rs p.reverse).2=3):rwF c (k+1) p d R=(none,(R.1,R.2.1+1,R.2.2.1,R.2.2.2)):=by rw[rwF,if_neg hm,if_neg h2,if_neg h3]
theorem qsK (k:Nat)(d:DataW Unit):1≤ndF (k+1) d:=by
 unfold ndF;split<;>omega
theorem qlb (c:Rc)(ok:qkl c)(k:Nat)(ih:qvb c k):qvb c (k+1):=by
 intro W F x d p f R N sts h hf hF hd hc hN;have cV:=h.verdict ok hf;obtain⟨l,hl,hln⟩:=ok.lab p.reverse;rw[hl] at cV;obtain⟨act,HAC⟩:∃act,Hid ((lbF c.v.dflt c.v.rs p.reverse).2=act):=⟨_,rfl⟩
 rw[HAC.out] at cV;obtain⟨b,HB⟩:∃b,Hid (c.v.m l c.v.clr=b):=⟨_,rfl⟩
 have HLT:Hid ((lbF c.v.dflt c.v.rs p.reverse).1.toNat=l):=by show _=_;rw[hl];simp
 have cM:=fun V=>qmD c.O c.n c.v.m ok.ord ok.n6 l c.v.clr hln ok.clr V;rw[HB.out] at cM;obtain⟨t,y,rfl⟩:=hd.iface;have HR:=qaa h;have HOK:=qaa ok;have c39:=qrc h ok;have hRs:=h.few;have hnp:=qsK k d;have HSH:Hid (∀V,qcy c (R.1+1,R.2) (N+1) sts V→KpR W V→Calls prog 189 #[.pointer (some ⟨c.B,0,none⟩),.iface t y,.int .i64 f] V (qiY c (k+1) F (shF (rwF c.v k) p d (R.1+1,R.2)) (N+1+ndF (k+1) d-1) sts V)):=fun V h1 h2=>qr2 c ok k ih V F (.iface t y) d p f (R.1+1,R.2) (N+1) sts h1 hf (fun j hj=>Nat.lt_of_lt_of_le (hF j hj) h2.size) (hd.kept (fun _ h=>h) h2) hc (by omega);rw[show N+1+ndF (k+1) d-1=N+ndF (k+1) d by omega] at HSH;have hg0:8<c.W0.heap.size:=by
  have h0:=ok.tab;by_cases h:8<c.W0.heap.size
  ·exact h
  simp[World.cell?,h] at h0
 have HTG:Hid (∀V,Below c.W0.heap.size c.W0 V→KpR W V→Calls prog 190 #[.int .i64 c.v.key,.int .i64 l,.iface t y] V fun e W'=>e=.returned (.string ⟨(qs5 c.v.key l (qaU (k+1) d)).toArray⟩)∧Below V.heap.size V W'):=fun V h1 h2=>qoN c.v.key l (by have:=ok.n6;omega) (k+1) V F (.iface t y) d (fun j hj=>Nat.lt_of_lt_of_le (hF j hj) h2.size) (hd.kept (fun _ h=>h) h2) hc ((h1.cell hg0).trans ok.tab);have hNN:N+1≤N+ndF (k+1) d:=by omega
 obtain⟨rr,HRR⟩:∃rr,Hid (rwF c.v (k+1) p d R=rr):=⟨_,rfl⟩
 rw[HRR.out];generalize hNE:N+ndF (k+1) d=NE at *;go_enter func140,ntmps140
 go_wp2_with (first
  |(go_at_call 154;refine cV.mono ?_;rintro e w2 ⟨rfl,hB2⟩;have HR2:=qaa (HR.out.step hB2.drew);have HK2:=qaa (KpR.of_below hB2.drew)))
 refine rgn (S:=fun Z=>(∀(j:Nat) (u:Value),c.O[j]? = some u→Z.cell? ⟨c.B,0+j,none⟩=some u)∧Z.cell? ⟨c.B,37,none⟩=some (.int .i64 c.v.clr)) (⟨qnU HR2.out,qfE HR2.out HOK.out 0⟩) (by kernel_rfl) ?_;intro hS;refine tkH 0 20 (.pointer (some ⟨c.B,0,none⟩)) rfl (by kernel_rfl) (fun _ _ _ h=>h) (fun Z hZ=>by kernel_rfl) hS ?_;refine tkH 1 21 (.pointer (some ⟨c.B,0,none⟩)) rfl (by kernel_rfl) (fun _ _ _ h=>h) (fun Z hZ=>by kernel_rfl) hS ?_;refine tkH 2 22 (.pointer (some ⟨c.B,0,none⟩)) rfl (by kernel_rfl) (fun _ _ _ h=>h) (fun Z hZ=>by kernel_rfl) hS ?_;refine tkH 3 23 (.pointer (some ⟨c.B,0,none⟩)) rfl (by kernel_rfl) (fun _ _ _ h=>h) (fun Z hZ=>by kernel_rfl) hS ?_;refine tkH 4 24 (.agg c.O) rfl (by kernel_rfl) (fun _ _ _ h=>h) (fun Z hZ => ?y4) hS ?_
 case y4=>exact qw8 107 (.tmp 23) rfl c.B 0 rfl c.O _ hZ.1 underlying107 rfl (qqZ HOK.out)
 refine tkH 5 25 (.int .i64 l) rfl (by kernel_rfl) (fun _ _ _ h=>h) (fun Z hZ=>by kernel_rfl) hS ?_;refine tkH 6 26 (.pointer (some ⟨c.B,0,none⟩)) rfl (by kernel_rfl) (fun _ _ _ h=>h) (fun Z hZ=>by kernel_rfl) hS ?_;refine tkH 7 27 (.pointer (some ⟨c.B,0,none⟩)) rfl (by kernel_rfl) (fun _ _ _ h=>h) (fun Z hZ=>by kernel_rfl) hS ?_;refine tkH 8 28 (.pointer (some ⟨c.B,0,none⟩)) rfl (by kernel_rfl) (fun _ _ _ h=>h) (fun Z hZ=>by kernel_rfl) hS ?_;refine tkH 9 29 (.pointer (some ⟨c.B,37,none⟩)) rfl (by kernel_rfl) (fun _ _ _ h=>h) (fun Z hZ=>by kernel_rfl) hS ?_;refine tkH 10 30 (.int .i64 c.v.clr) rfl (by kernel_rfl) (fun _ _ _ h=>h) (fun Z hZ => ?y10) hS ?_
 case y10=>(have z1:=hZ.2;go_simp)
 refine rdS 11 rfl (by kernel_rfl) (fun K hK => ?_);go_simp;refine(cM _).mono ?_;rintro e w3 ⟨rfl,hB3⟩;simp only[];have HR3:=qaa (HR2.out.step hB3);have HK3:=qaa (HK2.out.trans (KpR.of_below hB3));have hS3:(fun Z:World=>(∀(j:Nat) (u:Value),c.O[j]? = some u→Z.cell? ⟨c.B,0+j,none⟩=some u)∧Z.cell? ⟨c.B,37,none⟩=some (.int .i64 c.v.clr)) w3:=⟨qnU HR3.out,qfE HR3.out HOK.out 0⟩
 refine hK.out _ _ hS3 (fun _ => ?_);refine wpAnyH_done (by kernel_rfl) ?_ _;go_simp;have hfz:∀j,w3.frozen? ⟨c.B,j,none⟩=false:=fun j=>frozen_of_row w3 c.B j _ _ HR3.out.box
 cases b with
 |true =>
  have k40:w3.cell? ⟨c.B,40,none⟩=some (.int .i64 R.1):=qfE HR3.out HOK.out 3;have hf40:=hfz 40;have hRR:=HRR.out.symm.trans (qrY (by rw[HLT.out];exact HB.out));subst hRR;have HC4:qcy c (R.1+1,R.2) (N+1) sts (w3.setCell ⟨c.B,40,none⟩ (.int .i64 ((R.1:Int)+1)))∧KpR w3 (w3.setCell ⟨c.B,40,none⟩ (.int .i64 ((R.1:Int)+1))):=HR3.out.count (R':=(R.1+1,R.2)) HOK.out 40 (R.1+1) (by rw[show 40=37+3 from rfl,qiJ HOK.out];rfl) (by simp only;omega);have cS:=HSH.out _ HC4.1 (HK3.out.trans HC4.2);have HK4:=qaa (HK3.out.trans HC4.2);generalize shF (rwF c.v k) p d (R.1+1,R.2)=sh at *
  go_wp2_with (first
   |(go_at_call 189;refine cS.mono ?_;rintro e w4 ⟨v4,sts4,rfl,hR4,hK4,hP4,hD4⟩;obtain⟨t4,y4,rfl⟩:=hD4.iface;have HR4:=qaa hR4;have HP4:=qaa hP4;have HK5:=qaa (HK4.out.trans hK4);have HD4:Hid (qai (k+1) w4 (fun j=>F j∨(W.heap.size≤j∧j<w4.heap.size)) (.iface t4 y4) sh.1):=hD4.same (fun j hj=>hj.imp id (fun h=>⟨Nat.le_trans HK4.out.size h.1,h.2⟩)) (fun _ _=>rfl)))
  refine bodyPost_ret (results_tmp2 results140 _ _ _) rfl ?_;exact⟨_,sts4,rfl,HR4.out,HK5.out,HP4.out,fun h=>by simp at h,fun d' h=>by
   have h':=Option.some.inj h;rw[←h'];exact HD4.out⟩
 |false =>
  have HBF:Hid (¬c.v.m (lbF c.v.dflt c.v.rs p.reverse).1.toNat c.v.clr=true):=by show ¬_;rw[HLT.out,HB.out];decide
  by_cases h2:act=2
  ·subst h2;have k42:w3.cell? ⟨c.B,42,none⟩=some (.int .i64 R.2.2.1):=qfE HR3.out HOK.out 5;have hf42:=hfz 42;have hRR:=HRR.out.symm.trans (qrP HBF.out HAC.out);subst hRR;have HC4:qcy c (R.1,R.2.1,R.2.2.1+1,R.2.2.2) (N+1) sts (w3.setCell ⟨c.B,42,none⟩ (.int .i64 ((R.2.2.1:Int)+1)))∧KpR w3 (w3.setCell ⟨c.B,42,none⟩ (.int .i64 ((R.2.2.1:Int)+1))):=HR3.out.count (R':=(R.1,R.2.1,R.2.2.1+1,R.2.2.2)) HOK.out 42 (R.2.2.1+1) (by rw[show 42=37+5 from rfl,qiJ HOK.out];rfl) (by simp only;omega);have HK4:=qaa (HK3.out.trans HC4.2);have HR4:=qaa (HC4.1.more hNN)
   go_wp2_with fail
   refine bodyPost_ret (results_tmp2 results140 _ _ _) rfl ?_;exact⟨_,sts,rfl,HR4.out,HK4.out,Pre.refl _,fun h=>by simp at h,fun d' h=>by
    have h':=Option.some.inj h;rw[←h'];rfl⟩
  by_cases h3:act=3
  ·subst h3;have k43:w3.cell? ⟨c.B,43,none⟩=some (.int .i64 R.2.2.2):=qfE HR3.out HOK.out 6;have hf43:=hfz 43;have hRR:=HRR.out.symm.trans (qtq HBF.out HAC.out);rw[HLT.out] at hRR;subst hRR;have HC4:qcy c (R.1,R.2.1,R.2.2.1,R.2.2.2+1) (N+1) sts (w3.setCell ⟨c.B,43,none⟩ (.int .i64 ((R.2.2.2:Int)+1)))∧KpR w3 (w3.setCell ⟨c.B,43,none⟩ (.int .i64 ((R.2.2.2:Int)+1))):=HR3.out.count (R':=(R.1,R.2.1,R.2.2.1,R.2.2.2+1)) HOK.out 43 (R.2.2.2+1) (by rw[show 43=37+6 from rfl,qiJ HOK.out];rfl) (by simp only;omega);have HK4:=qaa (HK3.out.trans HC4.2);have HR4:=qaa (HC4.1.more hNN);have d38:(w3.setCell ⟨c.B,43,none⟩ (.int .i64 ((R.2.2.2:Int)+1))).cell? ⟨c.B,38,none⟩=some (.int .i64 c.v.key):=qfE HC4.1 HOK.out 1;have cG:=HTG.out _ HC4.1.below HK4.out;generalize qs5 c.v.key l (qaU (k+1) d)=tg at *
   go_wp2_with (first
    |(go_at_call 190;refine cG.mono ?_;rintro e w5 ⟨rfl,hB5⟩;have HR5:=qaa (HR4.out.step hB5);have HK5:=qaa (HK4.out.trans (KpR.of_below hB5))))
   refine bodyPost_ret (results_tmp2 results140 _ _ _) rfl ?_;exact⟨_,sts,rfl,HR5.out,HK5.out,Pre.refl _,fun h=>by simp at h,fun d' h=>by
    have h':=Option.some.inj h;rw[←h'];rfl⟩
  have k41:w3.cell? ⟨c.B,41,none⟩=some (.int .i64 R.2.1):=qfE HR3.out HOK.out 4;have hf41:=hfz 41;have e2:(act==2)=false:=by simpa using h2
  have e3:(act==3)=false:=by simpa using h3
  have hRR:=HRR.out.symm.trans (qrg HBF.out (HAC.out.symm▸h2) (HAC.out.symm▸h3));subst hRR;have HC4:qcy c (R.1,R.2.1+1,R.2.2.1,R.2.2.2) (N+1) sts (w3.setCell ⟨c.B,41,none⟩ (.int .i64 ((R.2.1:Int)+1)))∧KpR w3 (w3.setCell ⟨c.B,41,none⟩ (.int .i64 ((R.2.1:Int)+1))):=HR3.out.count (R':=(R.1,R.2.1+1,R.2.2.1,R.2.2.2)) HOK.out 41 (R.2.1+1) (by rw[show 41=37+4 from rfl,qiJ HOK.out];rfl) (by simp only;omega);have HK4:=qaa (HK3.out.trans HC4.2);have HR4:=qaa (HC4.1.more hNN)
  go_wp2_with fail
  refine bodyPost_ret (results_tmp2 results140 _ _ _) rfl ?_;exact⟨_,sts,rfl,HR4.out,HK4.out,Pre.refl _,fun _=>rfl,fun d' h=>by cases h⟩
theorem qs0 (c:Rc)(ok:qkl c):∀k,qvb c k
 |0=>fun _ _ _ _ _ _ _ _ _ _ _ _ h=>h.elim
 |k+1=>qlb c ok k (qs0 c ok k)
theorem qg0 {P:Program}{fn:Func}{p u:Tmp}{ty:TypeId}(h:fn.results=#[.tmp u,.cell p ty])(tmps:Array Value)(w:World)(g:Nat)(t:TypeId)(cs:Array Value)(fr:Nat×Nat)(d:TypeDesc)(hp:tmps.getD p undef=.pointer (some ⟨g,0,none⟩))(hg:w.heap[g]? = some (.cells cs t fr))(hu:P.underlying ty=some d)(hd:(match d with|.struct _|.array _ _=>true|_=>false)=true)(hi:(P.info? ty).map (·.size)=some cs.size)(v:Value)(hv:tmps.getD u undef=v):(results fn tmps).run P w=.ok (.tuple #[v,.agg cs]) w:=by
 have e:(results fn tmps).run P w=((asAddr (tmps.getD p undef)).run P w).andThen fun a w₁=>((loadVar ty a).run P w₁).andThen fun v w₂=>.ok (.tuple #[tmps.getD u undef,v]) w₂:=by
  simp only[results,h];simp[Sem.run_bind,Result.andThen]
 subst hv;rw[e,hp];simp only[asAddr,Sem.run_pure,Result.andThen_ok,run_loadVar_row w g t ty cs fr d hg hu hd hi]
def qhl (c:Rc):Array Value:=c.O++#[.int .i64 c.v.clr,.int .i64 c.v.key,.pointer (some ⟨c.A,0,none⟩)]
def qaF (R:Rep):Array Value:=#[.int .i64 R.1,.int .i64 R.2.1,.int .i64 R.2.2.1,.int .i64 R.2.2.2]
def qkN:Array Value:=qan 0 (fun _ _=>false)++#[.int .i64 0,.int .i64 0,.pointer none,.int .i64 0,.int .i64 0,.int .i64 0,.int .i64 0]
theorem qkd (ρ:Operand→Value)(o:Oper)(ho:o.op=.alloc 243)(w:World):(execOp ρ o).run prog w=.ok (.value (.pointer (some ⟨w.heap.size,0,none⟩))) (w.alloc (.cells qkN 243)):=by
 unfold execOp;rw[ho];kernel_rfl
theorem qgu {ops:Array Oper}{rest:List Oper}{o:Oper}{a:Act}{w:World}{Q:Exit→Act→World→Prop}(hg:o.guard=none)(ho:o.op=.alloc 243)(d:Option Tmp)(hd:o.dst=d)(N:Nat)(hN:w.heap.size=N)(h:wpList prog ops Q rest (a.put d (.pointer (some ⟨N,0,none⟩))) (w.alloc (.cells qkN 243))):wpList prog ops Q (o::rest) a w:=by
 subst hN;exact Great.wpList_allocTo hg d hd _ _ (qkd _ _ ho _) h
theorem qqc (n:Nat)(m:Nat→Nat→Bool)(x y:Int)(p:Option Addr):prog.built 243 [(0,.agg (qan n m++#[.int .i64 x,.int .i64 y,.pointer p]))]=some (qan n m++#[.int .i64 x,.int .i64 y,.pointer p,.int .i64 0,.int .i64 0,.int .i64 0,.int .i64 0]):=by kernel_rfl
theorem quh (h:A.size=40):(prog.info? 116).map (·.size)=some A.size:=by rw[h];kernel_rfl
theorem quO (h:A.size=44):(prog.info? 243).map (·.size)=some A.size:=by rw[h];kernel_rfl
theorem qaS (R:Rep):(prog.info? 50).map (·.size)=some (qaF R).size:=by kernel_rfl
theorem qrB (h:qai k V F v d):qai k {V with drawn:=V.drawn+1} F v d:=by
 have hk:∀j,F j→({V with drawn:=V.drawn+1}:World).heap[j]? = V.heap[j]?:=fun _ _=>rfl;exact qai.same (fun _ h=>h) hk h
def qvi (c:Rc)(k:Nat)(F:Nat→Prop)(r:Option (DataW Unit)×Rep)(W:World)(e:Ending)(V':World):Prop :=
 ∃t y,e=.returned (.tuple #[.iface t y,.agg (qaF r.2)])∧KpR W V'∧Below c.W0.heap.size c.W0 V'∧(∀j,j<W.heap.size→j≠c.A→j≠c.q.nb→j≠c.q.mb→some j≠c.own0→V'.heap[j]? = W.heap[j]?)∧qai k V' (fun j=>F j∨(W.heap.size≤j∧j<V'.heap.size)) (.iface t y) (r.1.getD .nil)
theorem qqe (c:Rc)(ok:qkl c)(hO:c.O=qan c.n c.v.m)(W:World)(hG:c.G=W)(hB:c.B=W.heap.size+2)(k:Nat)(F:Nat→Prop)(x:Value)(d:DataW Unit)(N:Nat)(sts:List ((Nat→Nat)×Int×Int))(sa:Option Addr)(sc:Nat)(nf:Lit→Option Nat)(mn:Nat)(mf:Lit→Option Nat)(hA:qcj c.W0 c.A c.q sts (.slice sa sts.length sc) nf mn mf W)(hM:qtn c.q sts mf)(hmn:mn≤N)(hsl:sts.length≤N+1)(ho:(Value.slice sa sts.length sc).ownBlock=c.own0)(hs:StF c sts 0 [])(hF:∀j,F j→j<W.heap.size)(hd:qai k W F x d)(hc:(qaU k d).length≤999999999)(hN:N+ndF k d≤90000):Calls prog 89 #[.agg (qhl c),x] W (qvi c k F (rwF c.v k [] d (0,0,0,0)) W):=by
 have hrw:rwC c (0,0,0,0)=qan c.n c.v.m++#[.int .i64 c.v.clr,.int .i64 c.v.key,.pointer (some ⟨c.A,0,none⟩),.int .i64 0,.int .i64 0,.int .i64 0,.int .i64 0]:=by unfold rwC;rw[hO];rfl
 have HBT:Hid (prog.built 243 [(0,.agg (qhl c))]=some (rwC c (0,0,0,0))):=by show _=_;rw[hrw];unfold qhl;rw[hO];exact qqc _ _ _ _ _
 have HS1:Hid ((qhl c).size=40):=by show _=_;unfold qhl;rw[hO,Array.size_append,qae];rfl
 have HS2:Hid ((rwC c (0,0,0,0)).size=44):=qlx ok _;have HS3:Hid (qkN.size=(rwC c (0,0,0,0)).size):=by show _=_;rw[qlx ok,qkN,Array.size_append,qae];rfl
 have HS4:Hid ((rwC c (0,0,0,0)).all (·.oneCell')=true):=by show _=_;rw[hrw,Array.all_append,qe0];simp[Value.oneCell']
 have HIR:Hid (∀V,Below W.heap.size W V→V.heap[W.heap.size+2]? = some (.cells (rwC c (0,0,0,0)) 243)→Calls prog 140 #[.pointer (some ⟨W.heap.size+2,0,none⟩),x,.int .i64 0] V (qob c k F (rwF c.v k [] d (0,0,0,0)) (N+ndF k d) sts V)):=fun V h1 h2=>by
  have:=qs0 c ok k V F x d [] 0 (0,0,0,0) N sts ⟨by rw[hB];exact h2,⟨sa,sc,nf,mn,mf,hA.next h1,hM,hmn,hsl,.inl ho⟩,⟨by rw[hG];exact h1.size,fun j a _ _ _ _=>by rw[hG];exact h1.block j (hG▸a)⟩,Nat.zero_le _⟩ hs (fun j hj=>Nat.lt_of_lt_of_le (hF j hj) h1.size) (hd.same (fun _ h=>h) (fun j hj=>h1.block j (hF j hj))) hc hN;rw[hB] at this;exact this
 have hTN:∀V G,qai k V G (.iface 247 (.agg #[])) .nil:=fun V G=>by
  cases k with
  |zero=>exact hd.elim
  |succ k=>rfl
 obtain⟨t,y,rfl⟩:=hd.iface;have HF:Hid (∀j,F j→j<W.heap.size):=hF;have hWs:c.W0.heap.size≤W.heap.size+1:=Nat.le_succ_of_le hA.below.size;clear hA hM hmn hsl ho hs hF hd hc hN hrw;obtain⟨⟨o,R⟩,hr⟩:∃r,rwF c.v k [] d (0,0,0,0)=r:=⟨_,rfl⟩
 rw[hr] at HIR ⊢;clear hr;have HX1:Hid (((W.alloc (.cells (qhl c) 116)).alloc (.cells #[.int .i64 0,.int .i64 0,.int .i64 0,.int .i64 0] 50)).heap[W.heap.size]? = some (.cells (qhl c) 116)):=(Below.heap_alloc _ _ _ (by simp)).trans (qac W _);have HX2:Hid ((((W.alloc (.cells (qhl c) 116)).alloc (.cells #[.int .i64 0,.int .i64 0,.int .i64 0,.int .i64 0] 50)).alloc (.cells qkN 243)).heap[W.heap.size+2]? = some (.cells qkN 243)):=by
  have h:=qac ((W.alloc (.cells (qhl c) 116)).alloc (.cells #[.int .i64 0,.int .i64 0,.int .i64 0,.int .i64 0] 50)) (.cells qkN 243);show _=_;rw[World.size_alloc,World.size_alloc] at h;exact h
 have HBW:Hid (Below W.heap.size W (((W.alloc (.cells (qhl c) 116)).alloc (.cells #[.int .i64 0,.int .i64 0,.int .i64 0,.int .i64 0] 50)).alloc (.cells qkN 243))):=((bwA).alloc (by simp) _).alloc (by simp;omega) _;have HX3:Hid ((((W.alloc (.cells (qhl c) 116)).alloc (.cells #[.int .i64 0,.int .i64 0,.int .i64 0,.int .i64 0] 50)).alloc (.cells qkN 243)).heap[W.heap.size+1]? = some (.cells (qaF (0,0,0,0)) 50)):=by
  have h:=qac (W.alloc (.cells (qhl c) 116)) (.cells #[.int .i64 0,.int .i64 0,.int .i64 0,.int .i64 0] 50);show _=_;rw[World.size_alloc] at h;exact(Below.heap_alloc _ _ _ (by simp)).trans h
 go_enter func89,ntmps89
 go_wp2_with (first
  |(refine qgu rfl rfl _ rfl (W.heap.size+2) ?hN ?_;case hN=>(simp only[World.size_alloc];done))
  |(refine wpList_load_row rfl 116 _ rfl W.heap.size rfl _ _ _ _ HX1.out underlying116 rfl (quh HS1.out) ?_)
  |(refine wpList_store_row rfl 243 _ _ rfl (W.heap.size+2) (rwC c (0,0,0,0)) rfl rfl 243 qkN HX2.out (quO HS2.out) HS3.out HS4.out ?_)
  |(refine qak rfl 243 _ rfl _ rfl _ [(0,.agg (qhl c))] ?hl HBT.out ?_;case hl=>simp[go_sem]))
 have HV1:Hid (Below W.heap.size W ((((W.alloc (.cells (qhl c) 116)).alloc (.cells #[.int .i64 0,.int .i64 0,.int .i64 0,.int .i64 0] 50)).alloc (.cells qkN 243)).setRow (W.heap.size+2) (rwC c (0,0,0,0)))):=qah HBW.out (by omega) _;have HV2:Hid (((((W.alloc (.cells (qhl c) 116)).alloc (.cells #[.int .i64 0,.int .i64 0,.int .i64 0,.int .i64 0] 50)).alloc (.cells qkN 243)).setRow (W.heap.size+2) (rwC c (0,0,0,0))).heap[W.heap.size+2]? = some (.cells (rwC c (0,0,0,0)) 243)):=setRow_heap _ _ _ _ _ _ HX2.out;have HV3:Hid (((((W.alloc (.cells (qhl c) 116)).alloc (.cells #[.int .i64 0,.int .i64 0,.int .i64 0,.int .i64 0] 50)).alloc (.cells qkN 243)).setRow (W.heap.size+2) (rwC c (0,0,0,0))).heap[W.heap.size+1]? = some (.cells (qaF (0,0,0,0)) 50)):=sx (by omega) HX3.out;have HV4:Hid (W.heap.size+3≤((((W.alloc (.cells (qhl c) 116)).alloc (.cells #[.int .i64 0,.int .i64 0,.int .i64 0,.int .i64 0] 50)).alloc (.cells qkN 243)).setRow (W.heap.size+2) (rwC c (0,0,0,0))).heap.size):=by show _≤_;simp
 generalize (((W.alloc (.cells (qhl c) 116)).alloc (.cells #[.int .i64 0,.int .i64 0,.int .i64 0,.int .i64 0] 50)).alloc (.cells qkN 243)).setRow (W.heap.size+2) (rwC c (0,0,0,0))=V at *;clear HX1 HX2 HX3 HBW HBT HS1 HS2 HS3 HS4;have cR:=HIR.out V HV1.out HV2.out;clear HIR;have HW0:Hid (c.W0.heap.size≤W.heap.size+1):=hWs;have HOK:Hid (qkl c):=ok;have HG:Hid (c.G=W):=hG;have HB:Hid (c.B=W.heap.size+2):=hB;clear ok hG hB hO;obtain⟨N4,HN4⟩:∃N4,Hid (N+ndF k d=N4):=⟨_,rfl⟩
 rw[HN4.out] at cR;have HTN:Hid (∀V G,qai k V G (.iface 247 (.agg #[])) .nil):=hTN;have cR2:Calls prog 140 #[.pointer (some ⟨W.heap.size+2,0,none⟩),.iface t y,.int .i64 0] V fun e V'=>∃v',e=.returned (.tuple #[v',.bool o.isSome])∧Hid (V'.heap[W.heap.size+2]? = some (.cells (rwC c R) 243))∧Hid (V'.heap[W.heap.size+1]? = some (.cells (qaF (0,0,0,0)) 50))∧Hid (KpR W V')∧Hid (Below c.W0.heap.size c.W0 V')∧Hid (∀j,j<W.heap.size→j≠c.A→j≠c.q.nb→j≠c.q.mb→some j≠c.own0→V'.heap[j]? = W.heap[j]?)∧(o=none→v'=.nilIface)∧∀d',o=some d'→qai k V' (fun j=>F j∨(W.heap.size+3≤j∧j<V'.heap.size)) v' d':=cR.mono (by
  rintro e V' ⟨v',sts',rfl,h1,h2,h3,h4,h5⟩;refine⟨v',rfl,?_,h2.row _ _ _ _ HV3.out (by decide) (by decide) (by decide),(KpR.of_below HV1.out).trans h2,h1.below,fun j a1 a2 a3 a4 a5 => ?_,h4,fun d' hd'=>(h5 d' hd').same (fun j hj=>hj.imp id (fun h=>⟨Nat.le_trans HV4.out h.1,h.2⟩)) (fun _ _=>rfl)⟩
  ·have:=h1.box;rw[HB.out] at this;exact this
  have:=h1.fr.2 j (by rw[HG.out];exact a1) a2 a3 a4 a5;rw[HG.out] at this;exact this)
 clear cR hTN;have HI4:Hid (∀(V':World),V'.heap[W.heap.size+2]? = some (.cells (rwC c R) 243)→∀(j:Nat) (u:Value),(qaF R)[j]? = some u→V'.cell? ⟨W.heap.size+2,40+j,none⟩=some u):=fun V' h j u hu=>by
  refine(qab h (40+j)).trans ?_;unfold rwC;rw[Array.getElem?_append_right (by rw[HOK.out.ord.size];omega),HOK.out.ord.size,show 40+j-37=j+3 by omega];have hj:j<4:=ltA hu
  match j,hj,hu with
  |0,_,hu=>exact hu
  |1,_,hu=>exact hu
  |2,_,hu=>exact hu
  |3,_,hu=>exact hu
 have HSZ:Hid (∀R:Rep,(qaF R).all (·.oneCell')=true):=fun R=>by simp[qaF,Value.oneCell']
 cases o with
 |none =>
  go_wp2_with (first
   |(go_at_call 140;refine cR2.mono ?_;clear cR2;rintro e w4 ⟨v4,rfl,H1,H2,H3,H4,H5,h6,_⟩;obtain rfl:=h6 rfl;clear h6;simp only[Option.isSome_none]))
  refine rgn (S:=fun Z=>Z.heap[W.heap.size+2]? = some (.cells (rwC c R) 243)) (H1.out) (by kernel_rfl) ?_;intro hS;have H2:Hid (({w4 with drawn:=w4.drawn+1}:World).heap[W.heap.size+1]? = some (.cells (qaF (0,0,0,0)) 50)):=H2;have H3:Hid (KpR W {w4 with drawn:=w4.drawn+1}):=⟨H3.out.size,H3.out.row⟩
  have H4:Hid (Below c.W0.heap.size c.W0 {w4 with drawn:=w4.drawn+1}):=H4.out.drew;have H5:Hid (∀j,j<W.heap.size→j≠c.A→j≠c.q.nb→j≠c.q.mb→some j≠c.own0→({w4 with drawn:=w4.drawn+1}:World).heap[j]? = W.heap[j]?):=H5;clear H1;generalize ({w4 with drawn:=w4.drawn+1}:World)=w5 at *;refine tkH 0 20 (.iface 247 (.agg #[])) rfl (by kernel_rfl) (fun _ _ _ h=>h) (fun Z hZ=>by kernel_rfl) hS ?_;refine tkH 1 21 (.pointer (some ⟨W.heap.size+2,40,none⟩)) rfl (by kernel_rfl) (fun _ _ _ h=>h) (fun Z hZ=>by kernel_rfl) hS ?_;refine tkH 2 22 (.agg (qaF R)) rfl (by kernel_rfl) (fun _ _ _ h=>h) (fun Z hZ => ?y2) hS ?_
  case y2=>exact qw8 50 (.tmp 21) rfl (W.heap.size+2) 40 rfl (qaF R) _ (HI4.out Z hZ) underlying50 rfl (qaS R)
  refine tkH 3 4 (.iface 247 (.agg #[])) rfl (by kernel_rfl) (fun _ _ _ h=>h) (fun Z hZ=>by kernel_rfl) hS ?_;have hS5:(fun Z:World=>Z.heap[W.heap.size+2]? = some (.cells (rwC c R) 243)) (World.setRow w5 (W.heap.size+1) (qaF R)):=sx (by omega) hS;refine rdS 4 rfl (by kernel_rfl) (fun K hK => ?_);refine ifw (by kernel_rfl) ?_;refine wp_store_row 50 (.tmp 5) (.tmp 22) rfl (W.heap.size+1) (qaF R) rfl rfl 50 (qaF (0,0,0,0)) H2.out (qaS R) rfl (HSZ.out R) ?_;refine hK.out _ _ hS5 (fun _ => ?_);clear hK;refine wpAnyH_done (by kernel_rfl) ?_ _;go_simp
  go_wp2_with fail
  refine bodyPost_ret (qg0 results89 _ _ (W.heap.size+1) 50 (qaF R) (0,0) _ rfl (setRow_heap _ _ _ _ _ _ H2.out) underlying50 rfl (qaS R) _ rfl) rfl ?_;have hK6:KpR W (World.setRow w5 (W.heap.size+1) (qaF R)):=⟨by have:=H3.out.size;simpa using this,fun j cs t fr a b c d=>(setRow_other _ _ _ _ (by have:=ltA a;omega)).trans (H3.out.row j cs t fr a b c d)⟩
  have hW6:c.W0.heap.size≤W.heap.size+1:=HW0.out;refine⟨_,_,rfl,hK6,qah H4.out hW6 _,fun j a1 a2 a3 a4 a5=>sx (by omega) (H5.out j a1 a2 a3 a4 a5),?_⟩;exact HTN.out _ _
 |some d' =>
  go_wp2_with (first
   |(go_at_call 140;refine cR2.mono ?_;clear cR2;rintro e w4 ⟨v4,rfl,H1,H2,H3,H4,H5,_,h7⟩;obtain⟨t4,y4,rfl⟩:=(h7 d' rfl).iface;have H7:Hid (qai k w4 (fun j=>F j∨(W.heap.size+3≤j∧j<w4.heap.size)) (.iface t4 y4) d'):=h7 d' rfl;clear h7;simp only[Option.isSome_some]))
  refine rgn (S:=fun Z=>Z.heap[W.heap.size+2]? = some (.cells (rwC c R) 243)) (H1.out) (by kernel_rfl) ?_;intro hS;have H2:Hid (({w4 with drawn:=w4.drawn+1}:World).heap[W.heap.size+1]? = some (.cells (qaF (0,0,0,0)) 50)):=H2;have H3:Hid (KpR W {w4 with drawn:=w4.drawn+1}):=⟨H3.out.size,H3.out.row⟩
  have H4:Hid (Below c.W0.heap.size c.W0 {w4 with drawn:=w4.drawn+1}):=H4.out.drew;have H5:Hid (∀j,j<W.heap.size→j≠c.A→j≠c.q.nb→j≠c.q.mb→some j≠c.own0→({w4 with drawn:=w4.drawn+1}:World).heap[j]? = W.heap[j]?):=H5;have H7:Hid (qai k {w4 with drawn:=w4.drawn+1} (fun j=>F j∨(W.heap.size+3≤j∧j<({w4 with drawn:=w4.drawn+1}:World).heap.size)) (.iface t4 y4) d'):=qrB H7.out;clear H1;generalize ({w4 with drawn:=w4.drawn+1}:World)=w5 at *;refine tkH 0 20 (.iface t4 y4) rfl (by kernel_rfl) (fun _ _ _ h=>h) (fun Z hZ=>by kernel_rfl) hS ?_;refine tkH 1 21 (.pointer (some ⟨W.heap.size+2,40,none⟩)) rfl (by kernel_rfl) (fun _ _ _ h=>h) (fun Z hZ=>by kernel_rfl) hS ?_;refine tkH 2 22 (.agg (qaF R)) rfl (by kernel_rfl) (fun _ _ _ h=>h) (fun Z hZ => ?y2) hS ?_
  case y2=>exact qw8 50 (.tmp 21) rfl (W.heap.size+2) 40 rfl (qaF R) _ (HI4.out Z hZ) underlying50 rfl (qaS R)
  refine tkH 3 4 (.iface t4 y4) rfl (by kernel_rfl) (fun _ _ _ h=>h) (fun Z hZ=>by kernel_rfl) hS ?_;have hS5:(fun Z:World=>Z.heap[W.heap.size+2]? = some (.cells (rwC c R) 243)) (World.setRow w5 (W.heap.size+1) (qaF R)):=sx (by omega) hS;refine rdS 4 rfl (by kernel_rfl) (fun K hK => ?_);refine ifw (by kernel_rfl) ?_;refine wp_store_row 50 (.tmp 5) (.tmp 22) rfl (W.heap.size+1) (qaF R) rfl rfl 50 (qaF (0,0,0,0)) H2.out (qaS R) rfl (HSZ.out R) ?_;refine hK.out _ _ hS5 (fun _ => ?_);clear hK;refine wpAnyH_done (by kernel_rfl) ?_ _;go_simp
  go_wp2_with fail
  refine bodyPost_ret (qg0 results89 _ _ (W.heap.size+1) 50 (qaF R) (0,0) _ rfl (setRow_heap _ _ _ _ _ _ H2.out) underlying50 rfl (qaS R) _ rfl) rfl ?_;have hK6:KpR W (World.setRow w5 (W.heap.size+1) (qaF R)):=⟨by have:=H3.out.size;simpa using this,fun j cs t fr a b c d=>(setRow_other _ _ _ _ (by have:=ltA a;omega)).trans (H3.out.row j cs t fr a b c d)⟩
  have hW6:c.W0.heap.size≤W.heap.size+1:=HW0.out;refine⟨_,_,rfl,hK6,qah H4.out hW6 _,fun j a1 a2 a3 a4 a5=>sx (by omega) (H5.out j a1 a2 a3 a4 a5),?_⟩;exact H7.out.same (fun j hj=>hj.imp id (fun h=>⟨by omega,by simpa using h.2⟩)) (fun j hj=>setRow_other _ _ _ _ (by
   rcases hj with hj|hj
   ·have:=HF.out j hj;omega
   omega))
end
end Go.Proofs.YtllcbnfmihfaaaaGreatDoor
