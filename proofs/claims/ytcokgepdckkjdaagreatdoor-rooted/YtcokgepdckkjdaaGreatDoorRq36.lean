import Derived.Lib.MapLaws
import Derived.Test.YtcokgepdckkjdaaGreatDoorRq33
import Derived.Test.YtcokgepdckkjdaaGreatDoorRq35
set_option maxRecDepth 100000
set_option maxHeartbeats 8000000
namespace Go.Proofs.YtcokgepdckkjdaaGreatDoor
open Go.Proofs.Tryz
variable {c:Rc}{R:Rep}{N k n:Nat}{sts:List ((Nat->Nat)×Int×Int)}{V W W' w:World}{F:Nat->Prop}{p:List (List UInt8×Bool)}{d:DataW Unit}{A:Array Value}
section
open Go.RowKit Go.Lib
theorem qrc (h:qcy c R N sts V)(ok:qkl c):V.cell? ⟨c.B,39,none⟩=some (.pointer (some ⟨c.A,0,none⟩)):=by
 refine(qab h.box 39).trans ?_;unfold rwC;rw[Array.getElem?_append_right (by rw[ok.ord.size];omega),ok.ord.size];rfl

theorem qcq.kept {V':World}{G:Nat->Prop}{xs:List Value}{es:List (Lit×DataW Unit)}(h:qcq k V F xs es)(f:∀k,F k->G k)(j:KpR V V'):qcq k V' G xs es:=fun i key d g=>by
 obtain⟨l,x,a,b,c,e⟩:=h i key d g;exact⟨l,x,a,b,c,e.kept f j⟩

def qiY (c:Rc)(k:Nat)(F:Nat->Prop)(r:DataW Unit×Rep)(M:Nat)(sts:List ((Nat->Nat)×Int×Int))(V:World)(e:Ending)(V':World):Prop :=
 ∃(v':Value) (sts':List ((Nat->Nat)×Int×Int)),e=.returned v'/\qcy c r.2 M sts' V'/\KpR V V'/\Pre sts sts'/\qai k V' (fun j=>F j\/(V.heap.size<=j/\j<V'.heap.size)) v' r.1

theorem qfE (h:qcy c R N sts V)(ok:qkl c)(j:Nat):V.cell? ⟨c.B,37+j,none⟩=#[.int .i64 c.v.clr,.int .i64 c.v.key,.pointer (some ⟨c.A,0,none⟩),.int .i64 R.1,.int .i64 R.2.1,.int .i64 R.2.2.1,.int .i64 R.2.2.2][j]?:=by
 refine(qab h.box (37+j)).trans ?_;unfold rwC;rw[Array.getElem?_append_right (by rw[ok.ord.size];omega),ok.ord.size,show 37+j-37=j by omega]
theorem qnU (h:qcy c R N sts V):∀(j:Nat) (u:Value),c.O[j]? = some u->V.cell? ⟨c.B,0+j,none⟩=some u:=by
 intro j u a;have b:j<c.O.size:=ltA a;refine(qab h.box (0+j)).trans ?_;rw[Nat.zero_add];unfold rwC;rw[Array.getElem?_append_left b];exact a
theorem qiJ (ok:qkl c)(R:Rep)(j:Nat)(v:Value):(rwC c R).setIfInBounds (37+j) v=c.O++#[.int .i64 c.v.clr,.int .i64 c.v.key,.pointer (some ⟨c.A,0,none⟩),.int .i64 R.1,.int .i64 R.2.1,.int .i64 R.2.2.1,.int .i64 R.2.2.2].setIfInBounds j v:=by
 unfold rwC;apply Array.ext';have a:c.O.toList.length=37:=by simp[ok.ord.size]
 simp only[Array.toList_setIfInBounds,Array.toList_append];rw[List.set_append_right _ _ (by omega),show 37+j-c.O.toList.length=j by omega]
theorem qqZ (ok:qkl c):(prog.info? 87).map (·.size)=some c.O.size:=by rw[ok.ord.size];kernel_rfl
theorem qrY {c:Rv}(a:c.m (lbF c.dflt c.rs p.reverse).1.toNat c.clr=true):rwF c (k+1) p d R=(some (shF (rwF c k) p d (R.1+1,R.2)).1,(shF (rwF c k) p d (R.1+1,R.2)).2):=by rw[rwF,if_pos a]
theorem qrP {c:Rv}(b:¬c.m (lbF c.dflt c.rs p.reverse).1.toNat c.clr=true)(a:(lbF c.dflt c.rs p.reverse).2=2):rwF c (k+1) p d R=(some (.lit (.string [42,42,42])),(R.1,R.2.1,R.2.2.1+1,R.2.2.2)):=by rw[rwF,if_neg b,if_pos a]
theorem qtq {c:Rv}(b:¬c.m (lbF c.dflt c.rs p.reverse).1.toNat c.clr=true)(a:(lbF c.dflt c.rs p.reverse).2=3):rwF c (k+1) p d R=(some (.lit (.string (qs5 c.key (lbF c.dflt c.rs p.reverse).1.toNat (qaU (k+1) d)))),(R.1,R.2.1,R.2.2.1,R.2.2.2+1)):=by rw[rwF,if_neg b,if_neg (by rw[a];decide),if_pos a]
theorem qrg {c:Rv}(e:¬c.m (lbF c.dflt c.rs p.reverse).1.toNat c.clr=true)(a:¬(lbF c.dflt c.rs p.reverse).2=2)(b:¬(lbF c.dflt c.rs p.reverse).2=3):rwF c (k+1) p d R=(none,(R.1,R.2.1+1,R.2.2.1,R.2.2.2)):=by rw[rwF,if_neg e,if_neg a,if_neg b]
theorem qsK (k:Nat)(d:DataW Unit):1<=ndF (k+1) d:=by
 unfold ndF;split<;>omega
def q3x (c:Rc)(k:Nat)(p:List (List UInt8×Bool)):Prop:=∀(W:World) (F:Nat->Prop) (x:Value) (d:DataW Unit) (f:Nat) (R:Rep) (N:Nat) (sts:List ((Nat->Nat)×Int×Int)) (_h:qcy c R N sts W) (_hf:StF c sts f p) (_hF:∀j,F j->j<W.heap.size) (_hd:qai (k+1) W F x d) (_hc:(qaU (k+1) d).length<=999999999) (_hN:N+ndF (k+1) d<=90001),Calls prog 118 #[.pointer (some ⟨c.B,0,none⟩),x,.int .i64 f] W (qiY c (k+1) F (shF (rwF c.v k) p d R) (N+ndF (k+1) d-1) sts W)
def q1L (c:Rc)(k:Nat)(p:List (List UInt8×Bool)):Prop:=∀(V:World) (F:Nat->Prop) (x:Value) (d:DataW Unit) (f:Nat) (R:Rep) (N:Nat) (sts:List ((Nat->Nat)×Int×Int)),qcy c R N sts V->StF c sts f p->(∀j,F j->j<V.heap.size)->qai k V F x d->(qaU k d).length<=999999999->N+ndF k d<=90000 ->
  Calls prog 91 #[.pointer (some ⟨c.B,0,none⟩),x,.int .i64 f] V (qob c k F (rwF c.v k p d R) (N+ndF k d) sts V)
theorem q03 (c:Rc)(ok:qkl c)(k:Nat)(p:List (List UInt8×Bool))(G:c.v.m (lbF c.v.dflt c.v.rs p.reverse).1.toNat c.v.clr=true->q3x c k p):q1L c (k+1) p:=by
 intro W F a9 d aj R N o h hf hF f hc hN;have Y:=h.verdict ok hf;obtain⟨l,hl,ap⟩:=ok.lab p.reverse;rw[hl] at Y;obtain⟨E,H⟩:∃E,Hid ((lbF c.v.dflt c.v.rs p.reverse).2=E):=⟨_,rfl⟩
 rw[H.out] at Y;obtain⟨b,Q⟩:∃b,Hid (c.v.m l c.v.clr=b):=⟨_,rfl⟩
 have T:Hid ((lbF c.v.dflt c.v.rs p.reverse).1.toNat=l):=by show _=_;rw[hl];simp
 have cM:=fun V=>qmD c.O c.n c.v.m ok.ord ok.n6 l c.v.clr ap ok.clr V;rw[Q.out] at cM;obtain⟨t,y,rfl⟩:=f.iface;have HR:Hid (qcy c R N o W):=h;have i:Hid (qkl c):=ok;have av:=qrc h ok;have az:=h.few;have a4:=qsK k d;have X:Hid (∀V,b=true->qcy c (R.1+1,R.2) (N+1) o V->KpR W V->Calls prog 118 #[.pointer (some ⟨c.B,0,none⟩),.iface t y,.int .i64 aj] V (qiY c (k+1) F (shF (rwF c.v k) p d (R.1+1,R.2)) (N+1+ndF (k+1) d-1) o V)):=fun V aw h1 w=>G (by rw[T.out,Q.out,aw]) V F (.iface t y) d aj (R.1+1,R.2) (N+1) o h1 hf (fun j P=>Nat.lt_of_lt_of_le (hF j P) w.size) (f.kept (fun _ h=>h) w) hc (by omega);rw[show N+1+ndF (k+1) d-1=N+ndF (k+1) d by omega] at X;have ao:8<c.W0.heap.size:=by
  have h0:=ok.tab;by_cases h:8<c.W0.heap.size
  ·exact h
  simp[World.cell?,h] at h0
 have L:Hid (∀V,Below c.W0.heap.size c.W0 V->KpR W V->Calls prog 119 #[.int .i64 c.v.key,.int .i64 l,.iface t y] V fun e W'=>e=.returned (.string ⟨(qs5 c.v.key l (qaU (k+1) d)).toArray⟩)/\Below V.heap.size V W'):=fun V h1 w=>qoN c.v.key l (by have:=ok.n6;omega) (k+1) V F (.iface t y) d (fun j P=>Nat.lt_of_lt_of_le (hF j P) w.size) (f.kept (fun _ h=>h) w) hc ((h1.cell ao).trans ok.tab);have ag:N+1<=N+ndF (k+1) d:=by omega
 obtain⟨rr,J⟩:∃rr,Hid (rwF c.v (k+1) p d R=rr):=⟨_,rfl⟩
 rw[J.out];generalize hNE:N+ndF (k+1) d=NE at *;clear h hf hF f hc ok G hl ap ao hNE;go_enter func91,ntmps91
 go_wp2_with (first
  |(go_at_call 116;refine Y.mono ?_;clear Y;rintro e w2 ⟨rfl,ac⟩;have U:Hid (qcy c R N o (World.drew w2)):=HR.out.step ac.drew;have ai:Hid (KpR W (World.drew w2)):=KpR.of_below ac.drew;clear HR av ac))
 refine rgn (S:=fun Z=>(∀(j:Nat) (u:Value),c.O[j]? = some u->Z.cell? ⟨c.B,0+j,none⟩=some u)/\Z.cell? ⟨c.B,37,none⟩=some (.int .i64 c.v.clr)) (⟨qnU U.out,qfE U.out i.out 0⟩) (by kernel_rfl) ?_;intro q;refine tkH 0 20 (.pointer (some ⟨c.B,0,none⟩)) rfl (by kernel_rfl) (fun _ _ _ h=>h) (fun Z r=>by kernel_rfl) q ?_;refine tkH 1 21 (.pointer (some ⟨c.B,0,none⟩)) rfl (by kernel_rfl) (fun _ _ _ h=>h) (fun Z r=>by kernel_rfl) q ?_;refine tkH 2 22 (.pointer (some ⟨c.B,0,none⟩)) rfl (by kernel_rfl) (fun _ _ _ h=>h) (fun Z r=>by kernel_rfl) q ?_;refine tkH 3 23 (.pointer (some ⟨c.B,0,none⟩)) rfl (by kernel_rfl) (fun _ _ _ h=>h) (fun Z r=>by kernel_rfl) q ?_;refine tkH 4 24 (.agg c.O) rfl (by kernel_rfl) (fun _ _ _ h=>h) (fun Z r => ?y4) q ?_
 case y4=>exact qw8 87 (.tmp 23) rfl c.B 0 rfl c.O _ r.1 underlying87 rfl (qqZ i.out)
 refine tkH 5 25 (.int .i64 l) rfl (by kernel_rfl) (fun _ _ _ h=>h) (fun Z r=>by kernel_rfl) q ?_;refine tkH 6 26 (.pointer (some ⟨c.B,0,none⟩)) rfl (by kernel_rfl) (fun _ _ _ h=>h) (fun Z r=>by kernel_rfl) q ?_;refine tkH 7 27 (.pointer (some ⟨c.B,0,none⟩)) rfl (by kernel_rfl) (fun _ _ _ h=>h) (fun Z r=>by kernel_rfl) q ?_;refine tkH 8 28 (.pointer (some ⟨c.B,0,none⟩)) rfl (by kernel_rfl) (fun _ _ _ h=>h) (fun Z r=>by kernel_rfl) q ?_;refine tkH 9 29 (.pointer (some ⟨c.B,37,none⟩)) rfl (by kernel_rfl) (fun _ _ _ h=>h) (fun Z r=>by kernel_rfl) q ?_;refine tkH 10 30 (.int .i64 c.v.clr) rfl (by kernel_rfl) (fun _ _ _ h=>h) (fun Z r => ?y10) q ?_
 case y10=>(have z1:=r.2;go_simp)
 refine rdS 11 rfl (by kernel_rfl) (fun ax hK => ?_);go_simp;refine(cM _).mono ?_;clear cM;rintro e a ⟨rfl,ad⟩;simp only[];have s:=qaa (U.out.step ad);have I:Hid (KpR W a):=ai.out.trans (KpR.of_below ad);have an:(fun Z:World=>(∀(j:Nat) (u:Value),c.O[j]? = some u->Z.cell? ⟨c.B,0+j,none⟩=some u)/\Z.cell? ⟨c.B,37,none⟩=some (.int .i64 c.v.clr)) a:=⟨qnU s.out,qfE s.out i.out 0⟩
 refine hK.out _ _ an (fun _ => ?_);clear hK U ai ad q;refine wpAnyH_done (by kernel_rfl) ?_ _;go_simp;clear an;have C:∀j,a.frozen? ⟨c.B,j,none⟩=false:=fun j=>frozen_of_row a c.B j _ _ s.out.box
 cases b with
 |true =>
  have a5:a.cell? ⟨c.B,40,none⟩=some (.int .i64 R.1):=qfE s.out i.out 3;have a0:=C 40;have A:rr=(some (shF (rwF c.v k) p d (R.1+1,R.2)).1,(shF (rwF c.v k) p d (R.1+1,R.2)).2):=J.out.symm.trans (qrY (by rw[T.out];exact Q.out));subst A;have g:qcy c (R.1+1,R.2) (N+1) o (a.setCell ⟨c.B,40,none⟩ (.int .i64 ((R.1:Int)+1)))/\KpR a (a.setCell ⟨c.B,40,none⟩ (.int .i64 ((R.1:Int)+1))):=s.out.count (R':=(R.1+1,R.2)) i.out 40 (R.1+1) (by rw[show 40=37+3 from rfl,qiJ i.out];rfl) (by simp only;omega);have cS:=X.out _ rfl g.1 (I.out.trans g.2);have z:Hid (KpR W (a.setCell ⟨c.B,40,none⟩ (.int .i64 ((R.1:Int)+1)))):=I.out.trans g.2;clear g L X C;generalize shF (rwF c.v k) p d (R.1+1,R.2)=G at *
  go_wp2_with (first
   |(go_at_call 118;refine cS.mono ?_;clear cS;rintro e w4 ⟨v4,ah,rfl,am,ak,al,af⟩;obtain⟨t4,y4,rfl⟩:=af.iface;have D:Hid (qcy c G.2 NE ah w4):=am;have ar:Hid (Pre o ah):=al;have ab:Hid (KpR W w4):=z.out.trans ak;have aq:Hid (qai (k+1) w4 (fun j=>F j\/(W.heap.size<=j/\j<w4.heap.size)) (.iface t4 y4) G.1):=af.same (fun j P=>P.imp id (fun h=>⟨Nat.le_trans z.out.size h.1,h.2⟩)) (fun _ _=>rfl);clear am ak al af))
  refine bodyPost_ret (results_tmp2 results91 _ _ _) rfl ?_;exact⟨_,ah,rfl,D.out,ab.out,ar.out,fun h=>by simp at h,fun x h=>by
   have M:G.1=x:=Option.some.inj h;rw[<-M];exact aq.out⟩
 |false =>
  have aa:Hid (¬c.v.m (lbF c.v.dflt c.v.rs p.reverse).1.toNat c.v.clr=true):=by show ¬_;rw[T.out,Q.out];decide
  clear X;by_cases w:E=2
  ·subst w;have a7:a.cell? ⟨c.B,42,none⟩=some (.int .i64 R.2.2.1):=qfE s.out i.out 5;have a2:=C 42;have A:=J.out.symm.trans (qrP aa.out H.out);subst A;have g:qcy c (R.1,R.2.1,R.2.2.1+1,R.2.2.2) (N+1) o (a.setCell ⟨c.B,42,none⟩ (.int .i64 ((R.2.2.1:Int)+1)))/\KpR a (a.setCell ⟨c.B,42,none⟩ (.int .i64 ((R.2.2.1:Int)+1))):=s.out.count (R':=(R.1,R.2.1,R.2.2.1+1,R.2.2.2)) i.out 42 (R.2.2.1+1) (by rw[show 42=37+5 from rfl,qiJ i.out];rfl) (by simp only;omega);have z:Hid (KpR W (a.setCell ⟨c.B,42,none⟩ (.int .i64 ((R.2.2.1:Int)+1)))):=I.out.trans g.2;have D:Hid (qcy c (R.1,R.2.1,R.2.2.1+1,R.2.2.2) NE o (a.setCell ⟨c.B,42,none⟩ (.int .i64 ((R.2.2.1:Int)+1)))):=g.1.more ag;clear g L C
   go_wp2_with fail
   refine bodyPost_ret (results_tmp2 results91 _ _ _) rfl ?_;exact⟨_,o,rfl,D.out,z.out,Pre.refl _,fun h=>by simp at h,fun x h=>by
    have M:=Option.some.inj h;rw[<-M];rfl⟩
  by_cases K:E=3
  ·subst K;have a8:a.cell? ⟨c.B,43,none⟩=some (.int .i64 R.2.2.2):=qfE s.out i.out 6;have a3:=C 43;have A:=J.out.symm.trans (qtq aa.out H.out);rw[T.out] at A;subst A;have g:qcy c (R.1,R.2.1,R.2.2.1,R.2.2.2+1) (N+1) o (a.setCell ⟨c.B,43,none⟩ (.int .i64 ((R.2.2.2:Int)+1)))/\KpR a (a.setCell ⟨c.B,43,none⟩ (.int .i64 ((R.2.2.2:Int)+1))):=s.out.count (R':=(R.1,R.2.1,R.2.2.1,R.2.2.2+1)) i.out 43 (R.2.2.2+1) (by rw[show 43=37+6 from rfl,qiJ i.out];rfl) (by simp only;omega);have z:Hid (KpR W (a.setCell ⟨c.B,43,none⟩ (.int .i64 ((R.2.2.2:Int)+1)))):=I.out.trans g.2;have D:Hid (qcy c (R.1,R.2.1,R.2.2.1,R.2.2.2+1) NE o (a.setCell ⟨c.B,43,none⟩ (.int .i64 ((R.2.2.2:Int)+1)))):=g.1.more ag;have ay:(a.setCell ⟨c.B,43,none⟩ (.int .i64 ((R.2.2.2:Int)+1))).cell? ⟨c.B,38,none⟩=some (.int .i64 c.v.key):=qfE g.1 i.out 1;have cG:=L.out _ g.1.below z.out;clear g L C w;generalize qs5 c.v.key l (qaU (k+1) d)=tg at *
   go_wp2_with (first
    |(go_at_call 119;refine cG.mono ?_;clear cG;rintro e w5 ⟨rfl,ae⟩;have au:=qaa (D.out.step ae);have ab:Hid (KpR W w5):=z.out.trans (KpR.of_below ae);clear ae))
   refine bodyPost_ret (results_tmp2 results91 _ _ _) rfl ?_;exact⟨_,o,rfl,au.out,ab.out,Pre.refl _,fun h=>by simp at h,fun x h=>by
    have M:=Option.some.inj h;rw[<-M];rfl⟩
  have a6:a.cell? ⟨c.B,41,none⟩=some (.int .i64 R.2.1):=qfE s.out i.out 4;have a1:=C 41;have e2:(E==2)=false:=by simpa using w
  have e3:(E==3)=false:=by simpa using K
  have A:=J.out.symm.trans (qrg aa.out (H.out.symm▸w) (H.out.symm▸K));subst A;have g:qcy c (R.1,R.2.1+1,R.2.2.1,R.2.2.2) (N+1) o (a.setCell ⟨c.B,41,none⟩ (.int .i64 ((R.2.1:Int)+1)))/\KpR a (a.setCell ⟨c.B,41,none⟩ (.int .i64 ((R.2.1:Int)+1))):=s.out.count (R':=(R.1,R.2.1+1,R.2.2.1,R.2.2.2)) i.out 41 (R.2.1+1) (by rw[show 41=37+4 from rfl,qiJ i.out];rfl) (by simp only;omega);have z:Hid (KpR W (a.setCell ⟨c.B,41,none⟩ (.int .i64 ((R.2.1:Int)+1)))):=I.out.trans g.2;have D:Hid (qcy c (R.1,R.2.1+1,R.2.2.1,R.2.2.2) NE o (a.setCell ⟨c.B,41,none⟩ (.int .i64 ((R.2.1:Int)+1)))):=g.1.more ag;clear g L C w K
  go_wp2_with fail
  refine bodyPost_ret (results_tmp2 results91 _ _ _) rfl ?_;exact⟨_,o,rfl,D.out,z.out,Pre.refl _,fun _=>rfl,fun x h=>by cases h⟩

theorem qg0 {P:Program}{fn:Func}{p u:Tmp}{ty:TypeId}(h:fn.results=#[.tmp u,.cell p ty])(b:Array Value)(w:World)(g:Nat)(t:TypeId)(cs:Array Value)(c:Nat×Nat)(d:TypeDesc)(j:b.getD p undef=.pointer (some ⟨g,0,none⟩))(i:w.heap[g]? = some (.cells cs t c))(k:P.underlying ty=some d)(f:(match d with|.struct _|.array _ _=>true|_=>false)=true)(hi:(P.info? ty).map (·.size)=some cs.size)(v:Value)(l:b.getD u undef=v):(results fn b).run P w=.ok (.tuple #[v,.agg cs]) w:=by
 have e:(results fn b).run P w=((asAddr (b.getD p undef)).run P w).andThen fun a m=>((loadVar ty a).run P m).andThen fun v n=>.ok (.tuple #[b.getD u undef,v]) n:=by
  simp only[results,h];simp[Sem.run_bind,Result.andThen]
 subst l;rw[e,j];simp only[asAddr,Sem.run_pure,Result.andThen_ok,run_loadVar_row w g t ty cs c d i k f hi]
def qhl (c:Rc):Array Value:=c.O++#[.int .i64 c.v.clr,.int .i64 c.v.key,.pointer (some ⟨c.A,0,none⟩)]
def qaF (R:Rep):Array Value:=#[.int .i64 R.1,.int .i64 R.2.1,.int .i64 R.2.2.1,.int .i64 R.2.2.2]
def qkN:Array Value:=qan 0 (fun _ _=>false)++#[.int .i64 0,.int .i64 0,.pointer none,.int .i64 0,.int .i64 0,.int .i64 0,.int .i64 0]
theorem qkd (ρ:Operand->Value)(o:Oper)(a:o.op=.alloc 183)(w:World):(execOp ρ o).run prog w=.ok (.value (.pointer (some ⟨w.heap.size,0,none⟩))) (w.alloc (.cells qkN 183)):=by
 unfold execOp;rw[a];kernel_rfl
theorem qgu {ops:Array Oper}{rest:List Oper}{o:Oper}{a:Act}{Q:Exit->Act->World->Prop}(e:o.guard=none)(f:o.op=.alloc 183)(d:Option Tmp)(c:o.dst=d)(N:Nat)(b:w.heap.size=N)(h:wpList prog ops Q rest (a.put d (.pointer (some ⟨N,0,none⟩))) (w.alloc (.cells qkN 183))):wpList prog ops Q (o::rest) a w:=by
 subst b;exact Great.wpList_allocTo e d c _ _ (qkd _ _ f _) h
theorem qqc (n:Nat)(m:Nat->Nat->Bool)(x y:Int)(p:Option Addr):prog.built 183 [(0,.agg (qan n m++#[.int .i64 x,.int .i64 y,.pointer p]))]=some (qan n m++#[.int .i64 x,.int .i64 y,.pointer p,.int .i64 0,.int .i64 0,.int .i64 0,.int .i64 0]):=by kernel_rfl
theorem quh (h:A.size=40):(prog.info? 98).map (·.size)=some A.size:=by rw[h];kernel_rfl
theorem quO (h:A.size=44):(prog.info? 183).map (·.size)=some A.size:=by rw[h];kernel_rfl
theorem qaS (R:Rep):(prog.info? 39).map (·.size)=some (qaF R).size:=by kernel_rfl
theorem qrB {v:Value}(h:qai k V F v d):qai k {V with drawn:=V.drawn+1} F v d:=by
 have a:∀j,F j->({V with drawn:=V.drawn+1}:World).heap[j]? = V.heap[j]?:=fun _ _=>rfl;exact qai.same (fun _ h=>h) a h
def qvi (c:Rc)(k:Nat)(F:Nat->Prop)(r:Option (DataW Unit)×Rep)(W:World)(e:Ending)(V':World):Prop :=
 ∃t y,e=.returned (.tuple #[.iface t y,.agg (qaF r.2)])/\KpR W V'/\Below c.W0.heap.size c.W0 V'/\(∀j,j<W.heap.size->j≠c.A->j≠c.q.nb->j≠c.q.mb->some j≠c.own0->V'.heap[j]? = W.heap[j]?)/\qai k V' (fun j=>F j\/(W.heap.size<=j/\j<V'.heap.size)) (.iface t y) (r.1.getD .nil)
theorem qqe (c:Rc)(ok:qkl c)(b:c.O=qan c.n c.v.m)(W:World)(U:c.G=W)(K:c.B=W.heap.size+2)(k:Nat)(bb:q1L c k [])(F:Nat->Prop)(x:Value)(d:DataW Unit)(N:Nat)(E:List ((Nat->Nat)×Int×Int))(sa:Option Addr)(sc:Nat)(nf:Lit->Option Nat)(mn:Nat)(mf:Lit->Option Nat)(hA:qcj c.W0 c.A c.q E (.slice sa E.length sc) nf mn mf W)(hM:qtn c.q E mf)(ay:mn<=N)(az:E.length<=N+1)(ho:(Value.slice sa E.length sc).ownBlock=c.own0)(hs:StF c E 0 [])(hF:∀j,F j->j<W.heap.size)(u:qai k W F x d)(hc:(qaU k d).length<=999999999)(hN:N+ndF k d<=90000):Calls prog 67 #[.agg (qhl c),x] W (qvi c k F (rwF c.v k [] d (0,0,0,0)) W):=by
 have ag:rwC c (0,0,0,0)=qan c.n c.v.m++#[.int .i64 c.v.clr,.int .i64 c.v.key,.pointer (some ⟨c.A,0,none⟩),.int .i64 0,.int .i64 0,.int .i64 0,.int .i64 0]:=by unfold rwC;rw[b];rfl
 have ai:Hid (prog.built 183 [(0,.agg (qhl c))]=some (rwC c (0,0,0,0))):=by show _=_;rw[ag];unfold qhl;rw[b];exact qqc _ _ _ _ _
 have am:Hid ((qhl c).size=40):=by show _=_;unfold qhl;rw[b,Array.size_append,qae];rfl
 have an:Hid ((rwC c (0,0,0,0)).size=44):=qlx ok _;have ao:Hid (qkN.size=(rwC c (0,0,0,0)).size):=by show _=_;rw[qlx ok,qkN,Array.size_append,qae];rfl
 have ap:Hid ((rwC c (0,0,0,0)).all (·.oneCell')=true):=by show _=_;rw[ag,Array.all_append,qe0];simp[Value.oneCell']
 have aa:Hid (∀V,Below W.heap.size W V->V.heap[W.heap.size+2]? = some (.cells (rwC c (0,0,0,0)) 183)->Calls prog 91 #[.pointer (some ⟨W.heap.size+2,0,none⟩),x,.int .i64 0] V (qob c k F (rwF c.v k [] d (0,0,0,0)) (N+ndF k d) E V)):=fun V C y=>by
  have:=bb V F x d 0 (0,0,0,0) N E ⟨by rw[K];exact y,⟨sa,sc,nf,mn,mf,hA.next C,hM,ay,az,.inl ho⟩,⟨by rw[U];exact C.size,fun j a _ _ _ _=>by rw[U];exact C.block j (U▸a)⟩,Nat.zero_le _⟩ hs (fun j g=>Nat.lt_of_lt_of_le (hF j g) C.size) (u.same (fun _ h=>h) (fun j g=>C.block j (hF j g))) hc hN;rw[K] at this;exact this
 have ax:∀V G,qai k V G (.iface 187 (.agg #[])) .nil:=fun V G=>by
  cases k with
  |zero=>exact u.elim
  |succ k=>rfl
 obtain⟨t,bf,rfl⟩:=u.iface;have HF:Hid (∀j,F j->j<W.heap.size):=hF;have bc:c.W0.heap.size<=W.heap.size+1:=Nat.le_succ_of_le hA.below.size;clear hA hM ay az ho hs hF u hc hN ag;obtain⟨⟨o,R⟩,hr⟩:∃be,rwF c.v k [] d (0,0,0,0)=be:=⟨_,rfl⟩
 rw[hr] at aa ⊢;clear hr;have av:Hid (((W.alloc (.cells (qhl c) 98)).alloc (.cells #[.int .i64 0,.int .i64 0,.int .i64 0,.int .i64 0] 39)).heap[W.heap.size]? = some (.cells (qhl c) 98)):=(Below.heap_alloc _ _ _ (by simp)).trans (qac W _);have ab:Hid ((((W.alloc (.cells (qhl c) 98)).alloc (.cells #[.int .i64 0,.int .i64 0,.int .i64 0,.int .i64 0] 39)).alloc (.cells qkN 183)).heap[W.heap.size+2]? = some (.cells qkN 183)):=by
  have h:=qac ((W.alloc (.cells (qhl c) 98)).alloc (.cells #[.int .i64 0,.int .i64 0,.int .i64 0,.int .i64 0] 39)) (.cells qkN 183);show _=_;rw[World.size_alloc,World.size_alloc] at h;exact h
 have aj:Hid (Below W.heap.size W (((W.alloc (.cells (qhl c) 98)).alloc (.cells #[.int .i64 0,.int .i64 0,.int .i64 0,.int .i64 0] 39)).alloc (.cells qkN 183))):=((bwA).alloc (by simp) _).alloc (by simp;omega) _;have aw:Hid ((((W.alloc (.cells (qhl c) 98)).alloc (.cells #[.int .i64 0,.int .i64 0,.int .i64 0,.int .i64 0] 39)).alloc (.cells qkN 183)).heap[W.heap.size+1]? = some (.cells (qaF (0,0,0,0)) 39)):=by
  have h:=qac (W.alloc (.cells (qhl c) 98)) (.cells #[.int .i64 0,.int .i64 0,.int .i64 0,.int .i64 0] 39);show _=_;rw[World.size_alloc] at h;exact(Below.heap_alloc _ _ _ (by simp)).trans h
 go_enter func67,ntmps67
 go_wp2_with (first
  |(refine qgu rfl rfl _ rfl (W.heap.size+2) ?hN ?_;case hN=>(simp only[World.size_alloc];done))
  |(refine wpList_load_row rfl 98 _ rfl W.heap.size rfl _ _ _ _ av.out underlying98 rfl (quh am.out) ?_)
  |(refine wpList_store_row rfl 183 _ _ rfl (W.heap.size+2) (rwC c (0,0,0,0)) rfl rfl 183 qkN ab.out (quO an.out) ao.out ap.out ?_)
  |(refine qak rfl 183 _ rfl _ rfl _ [(0,.agg (qhl c))] ?hl ai.out ?_;case hl=>simp[go_sem]))
 have ar:Hid (Below W.heap.size W ((((W.alloc (.cells (qhl c) 98)).alloc (.cells #[.int .i64 0,.int .i64 0,.int .i64 0,.int .i64 0] 39)).alloc (.cells qkN 183)).setRow (W.heap.size+2) (rwC c (0,0,0,0)))):=qah aj.out (by omega) _;have a7:Hid (((((W.alloc (.cells (qhl c) 98)).alloc (.cells #[.int .i64 0,.int .i64 0,.int .i64 0,.int .i64 0] 39)).alloc (.cells qkN 183)).setRow (W.heap.size+2) (rwC c (0,0,0,0))).heap[W.heap.size+2]? = some (.cells (rwC c (0,0,0,0)) 183)):=setRow_heap _ _ _ _ _ _ ab.out;have a8:Hid (((((W.alloc (.cells (qhl c) 98)).alloc (.cells #[.int .i64 0,.int .i64 0,.int .i64 0,.int .i64 0] 39)).alloc (.cells qkN 183)).setRow (W.heap.size+2) (rwC c (0,0,0,0))).heap[W.heap.size+1]? = some (.cells (qaF (0,0,0,0)) 39)):=sx (by omega) aw.out;have a9:Hid (W.heap.size+3<=((((W.alloc (.cells (qhl c) 98)).alloc (.cells #[.int .i64 0,.int .i64 0,.int .i64 0,.int .i64 0] 39)).alloc (.cells qkN 183)).setRow (W.heap.size+2) (rwC c (0,0,0,0))).heap.size):=by show _<=_;simp
 generalize (((W.alloc (.cells (qhl c) 98)).alloc (.cells #[.int .i64 0,.int .i64 0,.int .i64 0,.int .i64 0] 39)).alloc (.cells qkN 183)).setRow (W.heap.size+2) (rwC c (0,0,0,0))=V at *;clear av ab aw aj ai am an ao ap;have cR:=aa.out V ar.out a7.out;clear aa;have au:Hid (c.W0.heap.size<=W.heap.size+1):=bc;have al:Hid (qkl c):=ok;have HG:Hid (c.G=W):=U;have HB:Hid (c.B=W.heap.size+2):=K;clear ok U K b;obtain⟨N4,a0⟩:∃N4,Hid (N+ndF k d=N4):=⟨_,rfl⟩
 rw[a0.out] at cR;have a6:Hid (∀V G,qai k V G (.iface 187 (.agg #[])) .nil):=ax;have r:Calls prog 91 #[.pointer (some ⟨W.heap.size+2,0,none⟩),.iface t bf,.int .i64 0] V fun e i=>∃Y,e=.returned (.tuple #[Y,.bool o.isSome])/\Hid (i.heap[W.heap.size+2]? = some (.cells (rwC c R) 183))/\Hid (i.heap[W.heap.size+1]? = some (.cells (qaF (0,0,0,0)) 39))/\Hid (KpR W i)/\Hid (Below c.W0.heap.size c.W0 i)/\Hid (∀j,j<W.heap.size->j≠c.A->j≠c.q.nb->j≠c.q.mb->some j≠c.own0->i.heap[j]? = W.heap[j]?)/\(o=none->Y=.nilIface)/\∀z,o=some z->qai k i (fun j=>F j\/(W.heap.size+3<=j/\j<i.heap.size)) Y z:=cR.mono (by
  rintro e i ⟨Y,bg,rfl,C,y,h3,h4,h5⟩;refine⟨Y,rfl,?_,y.row _ _ _ _ a8.out (by decide) (by decide) (by decide),(KpR.of_below ar.out).trans y,C.below,fun j L M P Q T => ?_,h4,fun z bd=>(h5 z bd).same (fun j g=>g.imp id (fun h=>⟨Nat.le_trans a9.out h.1,h.2⟩)) (fun _ _=>rfl)⟩
  ·have:=C.box;rw[HB.out] at this;exact this
  have:=C.fr.2 j (by rw[HG.out];exact L) M P Q T;rw[HG.out] at this;exact this)
 clear cR ax;have ak:Hid (∀(i:World),i.heap[W.heap.size+2]? = some (.cells (rwC c R) 183)->∀(j:Nat) (ah:Value),(qaF R)[j]? = some ah->i.cell? ⟨W.heap.size+2,40+j,none⟩=some ah):=fun i h j ah s=>by
  refine(qab h (40+j)).trans ?_;unfold rwC;rw[Array.getElem?_append_right (by rw[al.out.ord.size];omega),al.out.ord.size,show 40+j-37=j+3 by omega];have g:j<4:=ltA s
  match j,g,s with
  |0,_,s=>exact s
  |1,_,s=>exact s
  |2,_,s=>exact s
  |3,_,s=>exact s
 have aq:Hid (∀R:Rep,(qaF R).all (·.oneCell')=true):=fun R=>by simp[qaF,Value.oneCell']
 cases o with
 |none =>
  go_wp2_with (first
   |(go_at_call 91;refine r.mono ?_;clear r;rintro e f ⟨v4,rfl,J,w,l,H,I,h6,_⟩;obtain rfl:=h6 rfl;clear h6;simp only[Option.isSome_none]))
  refine rgn (S:=fun Z=>Z.heap[W.heap.size+2]? = some (.cells (rwC c R) 183)) (J.out) (by kernel_rfl) ?_;intro p;have w:Hid (({f with drawn:=f.drawn+1}:World).heap[W.heap.size+1]? = some (.cells (qaF (0,0,0,0)) 39)):=w;have l:Hid (KpR W {f with drawn:=f.drawn+1}):=⟨l.out.size,l.out.row⟩
  have H:Hid (Below c.W0.heap.size c.W0 {f with drawn:=f.drawn+1}):=H.out.drew;have I:Hid (∀j,j<W.heap.size->j≠c.A->j≠c.q.nb->j≠c.q.mb->some j≠c.own0->({f with drawn:=f.drawn+1}:World).heap[j]? = W.heap[j]?):=I;clear J;generalize ({f with drawn:=f.drawn+1}:World)=w5 at *;refine tkH 0 20 (.iface 187 (.agg #[])) rfl (by kernel_rfl) (fun _ _ _ h=>h) (fun Z D=>by kernel_rfl) p ?_;refine tkH 1 21 (.pointer (some ⟨W.heap.size+2,40,none⟩)) rfl (by kernel_rfl) (fun _ _ _ h=>h) (fun Z D=>by kernel_rfl) p ?_;refine tkH 2 22 (.agg (qaF R)) rfl (by kernel_rfl) (fun _ _ _ h=>h) (fun Z D => ?y2) p ?_
  case y2=>exact qw8 39 (.tmp 21) rfl (W.heap.size+2) 40 rfl (qaF R) _ (ak.out Z D) underlying39 rfl (qaS R)
  refine tkH 3 4 (.iface 187 (.agg #[])) rfl (by kernel_rfl) (fun _ _ _ h=>h) (fun Z D=>by kernel_rfl) p ?_;have ae:(fun Z:World=>Z.heap[W.heap.size+2]? = some (.cells (rwC c R) 183)) (World.setRow w5 (W.heap.size+1) (qaF R)):=sx (by omega) p;refine rdS 4 rfl (by kernel_rfl) (fun ba X => ?_);refine ifw (by kernel_rfl) ?_;refine wp_store_row 39 (.tmp 5) (.tmp 22) rfl (W.heap.size+1) (qaF R) rfl rfl 39 (qaF (0,0,0,0)) w.out (qaS R) rfl (aq.out R) ?_;refine X.out _ _ ae (fun _ => ?_);clear X;refine wpAnyH_done (by kernel_rfl) ?_ _;go_simp
  go_wp2_with fail
  refine bodyPost_ret (qg0 results67 _ _ (W.heap.size+1) 39 (qaF R) (0,0) _ rfl (setRow_heap _ _ _ _ _ _ w.out) underlying39 rfl (qaS R) _ rfl) rfl ?_;have ad:KpR W (World.setRow w5 (W.heap.size+1) (qaF R)):=⟨by have:=l.out.size;simpa using this,fun j cs t fr a ac c d=>(setRow_other _ _ _ _ (by have:=ltA a;omega)).trans (l.out.row j cs t fr a ac c d)⟩
  have af:c.W0.heap.size<=W.heap.size+1:=au.out;refine⟨_,_,rfl,ad,qah H.out af _,fun j L M P Q T=>sx (by omega) (I.out j L M P Q T),?_⟩;exact a6.out _ _
 |some z =>
  go_wp2_with (first
   |(go_at_call 91;refine r.mono ?_;clear r;rintro e f ⟨v4,rfl,J,w,l,H,I,_,h7⟩;obtain⟨t4,y4,rfl⟩:=(h7 z rfl).iface;have H7:Hid (qai k f (fun j=>F j\/(W.heap.size+3<=j/\j<f.heap.size)) (.iface t4 y4) z):=h7 z rfl;clear h7;simp only[Option.isSome_some]))
  refine rgn (S:=fun Z=>Z.heap[W.heap.size+2]? = some (.cells (rwC c R) 183)) (J.out) (by kernel_rfl) ?_;intro p;have w:Hid (({f with drawn:=f.drawn+1}:World).heap[W.heap.size+1]? = some (.cells (qaF (0,0,0,0)) 39)):=w;have l:Hid (KpR W {f with drawn:=f.drawn+1}):=⟨l.out.size,l.out.row⟩
  have H:Hid (Below c.W0.heap.size c.W0 {f with drawn:=f.drawn+1}):=H.out.drew;have I:Hid (∀j,j<W.heap.size->j≠c.A->j≠c.q.nb->j≠c.q.mb->some j≠c.own0->({f with drawn:=f.drawn+1}:World).heap[j]? = W.heap[j]?):=I;have H7:Hid (qai k {f with drawn:=f.drawn+1} (fun j=>F j\/(W.heap.size+3<=j/\j<({f with drawn:=f.drawn+1}:World).heap.size)) (.iface t4 y4) z):=qrB H7.out;clear J;generalize ({f with drawn:=f.drawn+1}:World)=w5 at *;refine tkH 0 20 (.iface t4 y4) rfl (by kernel_rfl) (fun _ _ _ h=>h) (fun Z D=>by kernel_rfl) p ?_;refine tkH 1 21 (.pointer (some ⟨W.heap.size+2,40,none⟩)) rfl (by kernel_rfl) (fun _ _ _ h=>h) (fun Z D=>by kernel_rfl) p ?_;refine tkH 2 22 (.agg (qaF R)) rfl (by kernel_rfl) (fun _ _ _ h=>h) (fun Z D => ?y2) p ?_
  case y2=>exact qw8 39 (.tmp 21) rfl (W.heap.size+2) 40 rfl (qaF R) _ (ak.out Z D) underlying39 rfl (qaS R)
  refine tkH 3 4 (.iface t4 y4) rfl (by kernel_rfl) (fun _ _ _ h=>h) (fun Z D=>by kernel_rfl) p ?_;have ae:(fun Z:World=>Z.heap[W.heap.size+2]? = some (.cells (rwC c R) 183)) (World.setRow w5 (W.heap.size+1) (qaF R)):=sx (by omega) p;refine rdS 4 rfl (by kernel_rfl) (fun ba X => ?_);refine ifw (by kernel_rfl) ?_;refine wp_store_row 39 (.tmp 5) (.tmp 22) rfl (W.heap.size+1) (qaF R) rfl rfl 39 (qaF (0,0,0,0)) w.out (qaS R) rfl (aq.out R) ?_;refine X.out _ _ ae (fun _ => ?_);clear X;refine wpAnyH_done (by kernel_rfl) ?_ _;go_simp
  go_wp2_with fail
  refine bodyPost_ret (qg0 results67 _ _ (W.heap.size+1) 39 (qaF R) (0,0) _ rfl (setRow_heap _ _ _ _ _ _ w.out) underlying39 rfl (qaS R) _ rfl) rfl ?_;have ad:KpR W (World.setRow w5 (W.heap.size+1) (qaF R)):=⟨by have:=l.out.size;simpa using this,fun j cs t fr a ac c d=>(setRow_other _ _ _ _ (by have:=ltA a;omega)).trans (l.out.row j cs t fr a ac c d)⟩
  have af:c.W0.heap.size<=W.heap.size+1:=au.out;refine⟨_,_,rfl,ad,qah H.out af _,fun j L M P Q T=>sx (by omega) (I.out j L M P Q T),?_⟩;exact H7.out.same (fun j g=>g.imp id (fun h=>⟨by omega,by simpa using h.2⟩)) (fun j g=>setRow_other _ _ _ _ (by
   rcases g with g|g
   ·have:=HF.out j g;omega
   omega))

def qfn (T:DataW Unit->List UInt8)(e:Lit×DataW Unit):List UInt8:=(jsT (qb7 e.1)++[58])++T e.2

def qbd:Nat->DataW Unit->List UInt8
 |0,_=>[]
 |k+1,d=>match d with
  |.lit (.bool b)=>bif b then [116,114,117,101] else [102,97,108,115,101]
  |.lit (.int .i64 z)=>Lib.itoa z
  |.lit (.string l)=>jsT l
  |.agg ds=>([91]++qc5 (qbd k) ds)++[93]
  |.map es=>([123]++qc5 (qfn (qbd k)) es)++[125]
  |_=>[110,117,108,108]
theorem qtB (W:World)(b:Nat)(v:Value)(bs l:List UInt8)(p:bs.length+(jsT l).length<=999999999)(h:Own W b v bs):Calls prog 120 #[v,.iface 220 (.string ⟨l.toArray⟩)] W fun e d=>∃g,e=.returned g/\Own d b g (bs++jsT l)/\Below b W d:=by
 have f:=qil W b v ⟨l.toArray⟩ bs p h;have i:jsT (⟨l.toArray⟩:ByteArray).data.toList=jsT l:=rfl;rw[i] at f;obtain⟨a,n,c,rfl⟩:=h.2.2;have t:=qdU ⟨l.toArray⟩;have u:=qdi ⟨l.toArray⟩;have w:=qeH ⟨l.toArray⟩;go_enter func120,ntmps120
 go_wp2_with (first
  |(go_at_call 143;refine f.mono ?_;rintro e y ⟨x,rfl,j,o,_⟩;obtain⟨k,m,q,s,r,rfl⟩:=j))
 go_ret;exact⟨_,rfl,⟨k,m,_,_,_,rfl⟩,o⟩

def wrO (fm:Int)(k:Nat)(d:DataW Unit):List UInt8:=if fm=1 then qbd k d else if fm=2 then qaU k d else qcV k d
theorem qrz (key:Int)(a:Nat)(l:List UInt8):(qs5 key a l).length=16:=qq2 _ (qoH _ _ (qkj _ _))
theorem qhN (x:Nat):∀k,(beF x k).length=k
 |0=>rfl
 |k+1=>by unfold beF;rw[List.length_cons,qhN x k]
theorem qgh (s x:Nat):(qaj s x).length<=9:=by
 unfold qaj
 repeat' split
 all_goals simp[qhN]
theorem qwC (z:Int):(qhB z).length<=9:=by
 unfold qhB;split<;>exact qgh _ _
theorem qhD {α:Type}(f:α->List UInt8)(m:α->Nat):∀(l:List α),(∀a,a∈l->(f a).length<=m a)->(l.flatMap f).length<=(l.map m).sum
 |[],_=>Nat.le_refl _
 |a::l,h=>by
  have d:=h a (List.mem_cons_self ..);have e:=qhD f m l fun b c=>h b (List.mem_cons_of_mem _ c);rw[List.flatMap_cons,List.length_append,List.map_cons,List.sum_cons];omega
theorem qi3 (c f g a:Nat->List UInt8)(j:Bool->List UInt8)(i:List UInt8)(nm:Int->List UInt8)(h:∀x,(c x).length<=9/\(f x).length<=9/\(g x).length<=9/\(a x).length<=9)(m:∀b,(j b).length<=9)(o:i.length<=9)(n:∀z,(nm z).length<=9):∀(k:Nat) (d:DataW Unit),(wrF c f g a j i nm k d).length<=szF k d
 |0,_=>Nat.le_refl _
 |k+1,d=>by
  unfold wrF;split
  ·show _<=200;omega
  ·show _<=200;have:=m ‹Bool›;omega
  ·show _<=200;have:=n ‹Int›;omega
  ·next l=>show _<=200+6*l.length;have:=h l.length;rw[List.length_append];omega
  ·next l=>show _<=200+6*l.length;have:=h l.length;rw[List.length_append];omega
  ·next ds =>
   show _<=200+(ds.map fun d=>30+szF k d).sum;have p:=h ds.length;have q:=qhD (wrF c f g a j i nm k) (fun d=>30+szF k d) ds (fun d _=>Nat.le_trans (qi3 c f g a j i nm h m o n k d) (Nat.le_add_left _ _));rw[List.length_append];omega
  ·next es =>
   show _<=200+(es.map fun e=>100+6*(qb7 e.1).length+szF k e.2).sum;have p:=h es.length;have q:=qhD (fun e:Lit×DataW Unit=>(a (qb7 e.1).length++qb7 e.1)++wrF c f g a j i nm k e.2) (fun e=>100+6*(qb7 e.1).length+szF k e.2) es (fun e _=>by
    have r:=qi3 c f g a j i nm h m o n k e.2;have s:=h (qb7 e.1).length;rw[List.length_append,List.length_append];omega)
   rw[List.length_append];omega
  exact Nat.zero_le _
theorem qjz (k:Nat)(d:DataW Unit):(qaU k d).length<=szF k d :=
 qi3 _ _ _ _ _ _ _ (fun x=>⟨qgh _ _,qgh _ _,qgh _ _,qgh _ _⟩) (fun b=>by unfold qs1;cases b<;>exact qgh _ _) (qgh _ _) qwC k d
theorem qkK:∀(k:Nat) (d:DataW Unit),30*ndF k d<=szF k d
 |0,_=>Nat.le_refl _
 |k+1,d=>by
  unfold ndF szF;split
  ·next ds =>
   have b:30*(ds.map fun d=>1+ndF k d).sum<=(ds.map fun d=>30+szF k d).sum:=by
    induction ds with
    |nil=>exact Nat.le_refl _
    |cons a l c =>
     have:=qkK k a;rw[List.map_cons,List.sum_cons,List.map_cons,List.sum_cons];omega
   simp only[];omega
  ·next es =>
   have b:30*(es.map fun e=>2+ndF k e.2).sum<=(es.map fun e=>100+6*(qb7 e.1).length+szF k e.2).sum:=by
    induction es with
    |nil=>exact Nat.le_refl _
    |cons a l c =>
     have:=qkK k a.2;rw[List.map_cons,List.sum_cons,List.map_cons,List.sum_cons];omega
   simp only[];omega
  split<;>omega

end
section
open Go.RowKit Go.Shelf
structure qwJ (w:World)(c:Cfg)(N:Nat)(A:Array Value)(W:World):Prop where
 below:Below w.heap.size w W
 box:W.heap[w.heap.size]? = some (.cells c.arr 25)
 row:W.heap[N]? = some (.cells A 90)
theorem qwJ.step {c:Cfg}(h:qwJ w c N A W)(a:Below W.heap.size W W'):qwJ w c N A W' :=
 ⟨h.below.trans (a.mono h.below.size),(a.block _ (ltA h.box)).trans h.box,(a.block _ (ltA h.row)).trans h.row⟩
theorem qoa {c:Cfg}(h:qbw c=0):qez c.labels.toNat c.pol.data.toList=0:=by
 rw[<-(qk2 c).1] at h;unfold qhk at h;split at h
 ·next hh=>exact absurd h hh
 split at h
 ·cases h
 split at h
 ·cases h
 exact h

end
section
open Go.RowKit
theorem qcW.same {kt:TypeId}{m:Nat}{f:Lit->Option Nat}(h:qcW W kt m n f)(g:W'.heap[m]? = W.heap[m]?):qcW W' kt m n f:=by
 obtain⟨D,⟨b,a,c,d⟩,e⟩:=h;exact⟨D,⟨b,a,g.trans c,d⟩,e⟩
theorem qcj.rebase {W0 W1:World}{A:Nat}{q:Aut}{sv:Value}{nf:Lit->Option Nat}{mn:Nat}{mf:Lit->Option Nat}(h:qcj W0 A q sts sv nf mn mf W)(b:W1.heap.size=W0.heap.size)(d:Below W1.heap.size W1 W')(f:qdW W1 q.ra q.rs)(a:∀j,j=A\/j=q.lm\/j=q.tb\/j=q.nb\/j=q.mb\/sv.ownBlock=some j->W'.heap[j]? = W.heap[j]?):qcj W1 A q sts sv nf mn mf W':=by
 obtain⟨c,k,l⟩:=h.takes;have i:=qdn (W':=W') h.states fun g e=>a g (.inr (.inr (.inr (.inr (.inr e)))));exact {h with
  row:=(a A (.inl rfl)).trans h.row
  rules:=f
  below:=d
  letters:=h.letters.same (a _ (.inr (.inl rfl)))
  takes:=⟨c,(a _ (.inr (.inr (.inl rfl)))).trans k,l⟩
  states:=by rw[b];exact i
  numbers:=h.numbers.same (a _ (.inr (.inr (.inr (.inl rfl)))))
  moves:=h.moves.same (a _ (.inr (.inr (.inr (.inr (.inl rfl))))))
  high:=by rw[b];exact h.high}

end
section
theorem qpt {dflt:Int}(a:∃l:Nat,dflt=l/\l<n):∀(rs:List (List (Nat×List UInt8)×Int×Int)),(∀x∈rs,∃l:Nat,x.2.1=l/\l<n)->∀p,∃l:Nat,(lbF dflt rs p).1=l/\l<n
 |[],_,_=>a
 |x::rs,hr,p=>by
  rw[lbF];split
  ·exact hr x (List.mem_cons_self ..)
  exact qpt a rs (fun y b=>hr y (List.mem_cons_of_mem _ b)) p

end
section
open Go.RowKit Go.Lib
def q3w (w:List UInt8):Prop:=∃u c,w=u++[c]/\qst u=true/\qc1 u c=2

theorem qyy {a b:Array Value}(h:Value.agg a=.agg b):a=b:=by injection h
theorem qzZ:∀(k:Nat) (W:World) (F:Nat->Prop) (a:Array Value) (d:DataW Unit),(∀j,F j->j<W.heap.size)->qxY k W F (.agg a) d->(qaU k d).length<=999999999->Calls prog 33 #[.agg a] W (WrS (qaU k d) W)
 |0,_,_,_,_,_,h,_=>h.elim
 |k+1,W,F,a,d,hF,h,hl=>by
  unfold qxY at h;split at h
  ·obtain rfl:=qyy h;exact qze W 0 246 246 (by decide) rfl
  ·rename_i b
   obtain rfl:=qyy h;cases b
   ·exact qze W 1 244 244 (by decide) rfl
   exact qze W 2 245 245 (by decide) rfl
  ·obtain⟨h,c,e⟩:=h;obtain rfl:=qyy h;exact q2t W _ c e
  ·rename_i l
   obtain rfl:=qyy h;exact(q1o W l (by have:(qaj 3 l.length++l).length<=999999999:=hl;rw[List.length_append] at this;omega)).1
  ·rename_i l
   obtain rfl:=qyy h;exact(q1o W l (by have:(qaj 2 l.length++l).length<=999999999:=hl;rw[List.length_append] at this;omega)).2
  ·obtain⟨u,m,h,i,g⟩:=h;obtain rfl:=qyy h;exact q10 k W F u m _ (qaU k) hF i g hl (fun V a d c e f=>qzZ k V F a d c e f)
  ·obtain⟨o,u,m,h,n,i,g⟩:=h;obtain rfl:=qyy h;exact q2o k W F o u m _ (qaU k) hF n i g hl (fun V a d c e f=>qzZ k V F a d c e f)
  exact h.elim

end
end Go.Proofs.YtcokgepdckkjdaaGreatDoor
