import Derived.Test.YtllcbnfmihfaaaaGreatDoorTq33
import Derived.Test.YtllcbnfmihfaaaaGreatDoorTq34
set_option maxRecDepth 100000
set_option maxHeartbeats 8000000
namespace Go.Proofs.YtllcbnfmihfaaaaGreatDoor
open Go.Proofs.Tryz
variable {l:List UInt8}{W:World}{p p0 p1 q r:Nat}{cs:List Value}{z:Int}{d:DataW Unit}{ds:List (DataW Unit)}{es:List (Lit×DataW Unit)}
section
open Go.ChangeShapes Go.WideShapes Go.ChangeAt Go.RowKit Go.Lib Go.Deep
theorem qtG:(prog.globals[0]?).map (·.type)=some 274:=by kernel_rfl
theorem qu4:(prog.globals[1]?).map (·.type)=some 275:=by kernel_rfl
theorem qj0:prog.cellsOf 270=1:=by kernel_rfl
theorem qm0:prog.cellsOf 274=8:=by kernel_rfl
theorem qjW:prog.cellsOf 273=3:=by kernel_rfl
theorem qlK:prog.cellsOf 271=1:=by kernel_rfl
theorem qn0:prog.cellsOf 3=1:=by kernel_rfl
theorem qmJ:(Rows.laid_redact_reading_cborSorts:DataW Unit)=tabData .i64 [4,6,7,8,9,10,0,0]:=by kernel_rfl
theorem qmQ:(Rows.laid_redact_reading_packHeads:DataW Unit)=.agg (qgC.map fun x=>.agg [.lit (.int .i64 x.1),.lit (.int .i64 x.2),.lit (.int .u64 0)]):=by kernel_rfl
theorem qxu {l:List Value}(h:l.length=3):∃a b c,l=[a,b,c]:=by
 match l,h with
 |[a,b,c],_=>exact⟨a,b,c,rfl⟩
theorem qvo {α:Type}{l:List α}(h:l.length=3):∃a b c,l=[a,b,c]:=by
 match l,h with
 |[a,b,c],_=>exact⟨a,b,c,rfl⟩
theorem quR {sp:Nat→Bool}{held:Bool}{fuel:Nat}{x y:Int}{p:List MemPlace}(h:DataW.trod (fun _=>()) prog W 0 sp held fuel 273 cs=some (.agg [.lit (.int .i64 x),.lit (.int .i64 y),.lit (.int .u64 z)],p)):cs=[.int .i64 x,.int .i64 y,.int .u64 z]:=by
 obtain⟨xs,n,_,hx,hl,hlen,hf⟩:=DataW.trod_struct underlying273 h;rw[qjW] at hl;have hxl:xs.length=3:=hlen;obtain⟨v0,v1,v2,rfl⟩:=qxu hl;obtain⟨y0,y1,y2,rfl⟩:=qvo hxl;have t0:DataW.trod (fun _=>()) prog W 0 sp held n 270 (([v0,v1,v2].drop 0).take (prog.cellsOf 270))=some y0:=hf 0 _ rfl;have t1:DataW.trod (fun _=>()) prog W 0 sp held n 3 (([v0,v1,v2].drop 1).take (prog.cellsOf 3))=some y1:=hf 1 _ rfl;have t2:DataW.trod (fun _=>()) prog W 0 sp held n 271 (([v0,v1,v2].drop 2).take (prog.cellsOf 271))=some y2:=hf 2 _ rfl;rw[qj0] at t0;rw[qn0] at t1;rw[qlK] at t2;obtain⟨z0,e0,hy0⟩:=DataW.trod_int underlying270 t0;obtain⟨z1,e1,hy1⟩:=DataW.trod_int underlying3 t1;obtain⟨z2,e2,hy2⟩:=DataW.trod_int underlying271 t2;simp at e0 e1 e2;subst e0 e1 e2;obtain⟨rfl,_⟩:=hy0;obtain⟨rfl,_⟩:=hy1;obtain⟨rfl,_⟩:=hy2;simp only[List.map_cons,List.map_nil,Prod.mk.injEq,DataW.agg.injEq,List.cons.injEq,DataW.lit.injEq,Lit.int.injEq,and_true,true_and] at hx;obtain⟨⟨rfl,rfl,rfl⟩,_⟩:=hx;simp
theorem qwU {u:Nat}{a b c:Value}(h:(cs.drop (u*3)).take 3=[a,b,c]):cs[u*3]? = some a∧cs[u*3+1]? = some b∧cs[u*3+2]? = some c:=by
 have h0:=congrArg (fun l=>l[0]?) h;have h1:=congrArg (fun l=>l[1]?) h;have h2:=congrArg (fun l=>l[2]?) h;simp[List.getElem?_drop] at h0 h1 h2;exact⟨h0,h1,h2⟩
theorem qrq (hL':laidMet prog Rows.checksRow.laid W):qdh W:=by
 refine⟨?_,?_⟩
 ·obtain⟨g,t,cs,fuel,p,hg,hty,hvar,hd⟩:=laidMet.reads hL' (d:=Rows.laid_redact_reading_cborSorts) (.tail _ (.tail _ (.tail _ (.tail _ (.head _)))));obtain rfl:g=0:=Option.some.inj (hg.symm.trans (by kernel_rfl));obtain rfl:=Option.some.inj (qtG.symm.trans hty);rw[qmJ] at hd;have hcs:=cells_of_tab underlying274 underlying270 qj0 qm0 hd;intro u hu;have h1:=World.var?_cell hg hvar u;rw[h1,←Array.getElem?_toList,hcs];have:∀v:Fin 8,([4,6,7,8,9,10,0,0]:List Int)[v.val]? = some ((qq5 v.val:Nat):Int):=by decide
  rw[List.getElem?_map,this ⟨u,hu⟩];rfl
 obtain⟨g,t,cs,fuel,p,hg,hty,hvar,hd⟩:=laidMet.reads hL' (d:=Rows.laid_redact_reading_packHeads) (.tail _ (.tail _ (.tail _ (.tail _ (.tail _ (.head _))))));obtain rfl:g=1:=Option.some.inj (hg.symm.trans (by kernel_rfl));obtain rfl:=Option.some.inj (qu4.symm.trans hty);rw[qmQ] at hd;intro u hu;obtain⟨f0,d0,q0,hd0,h0⟩:=array_elem underlying275 hd u hu;have hlen:qgC.length=32:=rfl;rw[List.getElem?_map,List.getElem?_eq_getElem (by omega)] at hd0;cases hd0;have r0:=quR h0;rw[qjW] at r0;obtain⟨c0,c1,c2⟩:=qwU r0;have e:qgC.getD u (0,0)=qgC[u]'(by omega):=by rw[List.getD_eq_getElem?_getD,List.getElem?_eq_getElem (by omega)];rfl
 rw[e];refine⟨?_,?_,?_⟩
 ·rw[World.var?_cell hg hvar,←Array.getElem?_toList];exact c0
 ·rw[World.var?_cell hg hvar,←Array.getElem?_toList];exact c1
 rw[World.var?_cell hg hvar,←Array.getElem?_toList];exact c2
end
section
open Go.RowKit Go.Lib
theorem q4Z (r:Int):(qcD r).length≤4:=by unfold qcD;rw[List.length_map];exact(encodeRuneZ_length r).2
theorem qzL (bs:List UInt8)(lim:Int):∀(g p:Nat) (acc:List UInt8) (wh:Nat) (l:List UInt8) (q:Nat),wh≤acc.length→qzO (acc.take wh)→qst (acc.drop wh)=true→qfe bs lim g p acc wh=.ok (l,q)→qzO l∧l.length+4*p+4≤acc.length+4*q
 |0,_,_,_,_,_,_,_,_,h=>by cases h
 |g+1,p,acc,wh,l,q,hw,ha,hp,h=>by
  rw[qfe] at h;split at h
  ·cases h
  rename_i c hc
  split at h
  ·cases h
  split at h
  ·rename_i h1
   injection h with h;injection h with e1 e2;subst e1 e2;rw[h1.2,List.take_length] at ha;exact⟨ha,by omega⟩
  split at h
  ·rename_i h1
   split at h
   ·cases h
   rename_i r q2 he
   have hf:=(qjf he).2;have h4:=q4Z r;have ih:=qzL bs lim g q2 _ _ l q (Nat.le_refl _) (by
    rw[List.take_length];rw[h1.2,List.take_length] at ha;exact ha.snoc (q3g r)) (by rw[List.drop_length];rfl) h
   rw[List.length_append] at ih;exact⟨ih.1,by omega⟩
  split at h
  ·cases h
  split at h
  ·cases h
  rename_i h0
  have ih:=qzL bs lim g (p+1) (acc++[c]) _ l q (by split<;>simp<;>omega) (by
   split
   ·rename_i h2
    rw[List.take_of_length_le (by simp)];have:=ha.snoc (q2u _ c hp h2);rwa [←List.append_assoc,List.take_append_drop] at this
   rwa [List.take_append_of_le_length hw]) (qja hw hp h0 rfl) h
  rw[List.length_append] at ih;simp only[List.length_singleton] at ih;exact⟨ih.1,by omega⟩
theorem q0G (bs:List UInt8)(lim:Int):∀(k p:Nat) (acc:List UInt8) (wh:Nat) (l:List UInt8) (q:Nat),wh≤acc.length→qzO (acc.take wh)→qst (acc.drop wh)=true→qfg bs lim k p acc wh=.ok (l,q)→qzO l∧l.length+p=acc.length+q
 |0,p,acc,wh,l,q,hw,ha,hp,h=>by
  rw[qfg] at h;split at h
  ·rename_i h1
   injection h with h;injection h with e1 e2;subst e1 e2;rw[h1,List.take_length] at ha;exact⟨ha,rfl⟩
  cases h
 |k+1,p,acc,wh,l,q,hw,ha,hp,h=>by
  rw[qfg] at h;split at h
  ·cases h
  rename_i c hc
  split at h
  ·cases h
  split at h
  ·cases h
  rename_i h0
  have ih:=q0G bs lim k (p+1) (acc++[c]) _ l q (by split<;>simp<;>omega) (by
   split
   ·rename_i h2
    rw[List.take_of_length_le (by simp)];have:=ha.snoc (q2u _ c hp h2);rwa [←List.append_assoc,List.take_append_drop] at this
   rwa [List.take_append_of_le_length hw]) (qja hw hp h0 rfl) h
  rw[List.length_append] at ih;simp only[List.length_singleton] at ih;exact⟨ih.1,by omega⟩
def TxV:Nat→DataW Unit→Prop
 |0,_=>True
 |k+1,d=>match d with
  |.lit (.string l)=>qzO l
  |.lit (.int .i64 z) => -9223372036854775808≤z∧z≤9223372036854775807
  |.agg ds=>∀d∈ds,TxV k d
  |.map es=>∀e∈es,qzO (qb7 e.1)∧TxV k e.2
  |_=>True
def TgT (p:Nat)(d:DataW Unit)(q:Nat):Prop:=SzT p d q∧∀k,TxV k d
theorem qyQ (h:∀k,szF (k+1) d=200)(h2:∀k,TxV k d)(hq:p<q):TgT p d q:=⟨qct h hq,h2⟩
theorem q2W (h : -9223372036854775808≤z∧z≤9223372036854775807)(k:Nat):TxV k (.lit (.int .i64 z)):=by
 cases k with
 |zero=>trivial
 |succ k=>exact h
theorem q50 (k:Nat):TxV k .nil:=by cases k<;>trivial
theorem q0Q (k:Nat)(b:Bool):TxV k (.lit (.bool b)):=by cases k<;>trivial
theorem q4B (k:Nat)(l:List UInt8):TxV k (.ptr (.lit (.string l))):=by cases k<;>trivial
theorem q3V (h:qzO l)(hq:l.length+4*(p+1)≤4*q):TgT p (.lit (.string l)) q:=⟨qoO hq,fun k=>by cases k with|zero=>trivial|succ k=>exact h⟩
def LiI (p0:Nat)(ds:List (DataW Unit))(p:Nat):Prop:=Gth sqL [] p0 ds p∧∀k,∀d∈ds,TxV k d
def EnI (p0:Nat)(es:List (Lit×DataW Unit))(p:Nat):Prop:=Gth sqE [] p0 es p∧∀k,∀e∈es,qzO (qb7 e.1)∧TxV k e.2
theorem LiI.snoc (h:LiI p0 ds p)(hp:p≤p1)(hd:TgT p1 d q):LiI p0 (ds++[d]) q:=by
 refine⟨fun k => ?_,fun k x hx => ?_⟩
 ·have h1:=h.1 k;have h2:=hd.1 k;rw[qiB];omega
 rcases List.mem_append.1 hx with h1|h1
 ·exact h.2 k x h1
 simp at h1;subst h1;exact hd.2 k
theorem EnI.snoc {p2:Nat}(h:EnI p0 es p)(hl:qzO l)(h1:l.length+4*p+4≤4*p1)(h2:p1≤p2)(hd:TgT p2 d q):EnI p0 (es++[(.string l,d)]) q:=by
 refine⟨fun k => ?_,fun k x hx => ?_⟩
 ·have h3:=h.1 k;have h4:=hd.1 k;rw[ql1];omega
 rcases List.mem_append.1 hx with h1|h1
 ·exact h.2 k x h1
 simp at h1;subst h1;exact⟨hl,hd.2 k⟩
theorem q47 (hr:p<r)(hq:r≤q)(h:LiI r ds q):TgT p (.agg ds) q:=⟨qnC hr hq h.1,fun k=>by cases k with|zero=>trivial|succ k=>exact h.2 k⟩
theorem q5C (hr:p<r)(hq:r≤q)(h:EnI r es q):TgT p (.map es) q:=⟨qsq hr hq h.1,fun k=>by cases k with|zero=>trivial|succ k=>exact h.2 k⟩
theorem q5u (p:Nat):LiI p [] p:=⟨fun k=>Nat.le_refl _,fun _ _ h=>by cases h⟩
theorem q5q (p:Nat):EnI p [] p:=⟨fun k=>Nat.le_refl _,fun _ _ h=>by cases h⟩
theorem q0Y {α:Type}(bs:List UInt8)(lim:Int)(itF:α→Nat→Except (Int×Int) (α×Nat))(last:Nat)(I:α→Nat→Prop)(hm:∀a p q,p≤q→I a p→I a q)(hi:∀a p a' q,I a p→itF a p=.ok (a',q)→I a' q∧p≤q):∀(g p:Nat) (acc a:α) (q:Nat),I acc p→qgW bs lim itF last g p acc=.ok (a,q)→I a q∧p≤q
 |0,_,_,_,_,_,h=>by cases h
 |g+1,p,acc,a,q,hI,h=>by
  rw[qgW] at h;split at h
  ·cases h
  rename_i p1 e1
  have h1:=qcm bs lim _ _ _ _ e1;split at h
  ·cases h
  rename_i acc' p2 e2
  obtain⟨hI2,h2⟩:=hi _ _ _ _ (hm _ _ _ h1 hI) e2;split at h
  ·cases h
  rename_i p3 e3
  have h3:=qcm bs lim _ _ _ _ e3;split at h
  ·cases h
  split at h
  ·cases h
  split at h
  ·injection h with h;injection h with e4 e5;subst e4 e5;exact⟨hm _ _ _ (by omega) hI2,by omega⟩
  split at h
  ·obtain⟨h5,h6⟩:=q0Y bs lim itF last I hm hi g (p3+1) acc' a q (hm _ _ _ (by omega) hI2) h;exact⟨h5,by omega⟩
  cases h
theorem q29 {α:Type}(bs:List UInt8)(lim:Int)(itF:α→Nat→Except (Int×Int) (α×Nat))(last:Nat)(I:α→Nat→Prop)(hm:∀a p q,p≤q→I a p→I a q)(hi:∀a p a' q,I a p→itF a p=.ok (a',q)→I a' q∧p≤q)(p:Nat)(acc a:α)(q:Nat)(hI:I acc p)(h:qe4 bs lim itF last p acc=.ok (a,q)):I a q∧p≤q:=by
 unfold qe4 at h;split at h
 ·cases h
 rename_i p1 e1
 have h1:=qcm bs lim _ _ _ _ e1;have hI1:=hm _ _ _ h1 hI;split at h
 ·obtain⟨h2,h3⟩:=q0Y bs lim itF last I hm hi _ _ _ _ _ hI1 h;exact⟨h2,by omega⟩
 split at h
 ·cases h
 split at h
 ·injection h with h;injection h with e4 e5;subst e4 e5;exact⟨hm _ _ _ (by omega) hI1,by omega⟩
 obtain⟨h2,h3⟩:=q0Y bs lim itF last I hm hi _ _ _ _ _ hI1 h;exact⟨h2,by omega⟩
def q5g (T:DataW Unit→List UInt8)(e:Lit×DataW Unit):List UInt8:=(qT (qb7 e.1)++[58])++T e.2
def qza:Nat→DataW Unit→List UInt8
 |0,_=>[]
 |k+1,d=>match d with
  |.lit (.bool b)=>bif b then [116,114,117,101] else [102,97,108,115,101]
  |.lit (.int .i64 z)=>Lib.itoa z
  |.lit (.string l)=>qT l
  |.agg ds=>([91]++qc5 (qza k) ds)++[93]
  |.map es=>([123]++qc5 (q5g (qza k)) es)++[125]
  |_=>[110,117,108,108]
def JwS (h:Bool)(l:List UInt8)(W:World)(e:Ending)(W':World):Prop:=e=.returned (.tuple #[.string ⟨(bif h then [] else l).toArray⟩,.bool (!h)])∧Below W.heap.size W W'
theorem q0P (W:World)(kd:Int)(l:List UInt8)(hk:(kd=0∧l=[110,117,108,108])∨(kd=1∧l=[102,97,108,115,101])∨(kd=2∧l=[116,114,117,101])):Calls prog 72 #[.agg (thA kd 0 ⟨#[]⟩ qxE qxE)] W (JwS false l W):=by
 unfold thA qxE;rcases hk with ⟨rfl,rfl⟩|⟨rfl,rfl⟩|⟨rfl,rfl⟩
 all_goals
  go_enter func72,ntmps72;go_wp2;refine bodyPost_ret (results_tmp2 results72 _ _ _) rfl ?_;exact⟨rfl,bwA⟩
theorem q4f (W:World)(l m:List UInt8):Calls prog 72 #[.agg (thA 5 0 ⟨l.toArray⟩ qxE qxE)] W (JwS true m W):=by
 unfold thA qxE;go_enter func72,ntmps72;go_wp2;refine bodyPost_ret (results_tmp2 results72 _ _ _) rfl ?_;exact⟨rfl,bwA⟩
theorem q5Q (W:World)(z:Int)(h1 : -9223372036854775808≤z)(h2:z≤9223372036854775807):Calls prog 72 #[.agg (thA 3 z ⟨#[]⟩ qxE qxE)] W (JwS false (Lib.itoa z) W):=by
 have HX:Hid (qyP W (thA 3 z ⟨#[]⟩ qxE qxE) (W.alloc (.cells (thA 3 z ⟨#[]⟩ qxE qxE) 93))):=qy6 _ _;have c:=q2s z.natAbs z (Nat.le_refl _) h1 h2;generalize Lib.itoa z=R at *;unfold thA qxE at *;go_enter func72,ntmps72
 go_wp2_with (first|(go_at_call 117;refine(c _).mono ?_;rintro e w2 ⟨rfl,hB2⟩))
 refine bodyPost_ret (results_tmp2 results72 _ _ _) rfl ?_;exact⟨rfl,(HX.out.next hB2).below⟩
theorem q5c (W:World)(l:List UInt8)(hl:l.length≤150000000):Calls prog 72 #[.agg (thA 4 0 ⟨l.toArray⟩ qxE qxE)] W (JwS false (qT l) W):=by
 have HX:Hid (qyP W (thA 4 0 ⟨l.toArray⟩ qxE qxE) (W.alloc (.cells (thA 4 0 ⟨l.toArray⟩ qxE qxE) 93))):=qy6 _ _;have c:=fun V=>q1p V l hl;generalize qT l=R at *;unfold thA qxE at *;go_enter func72,ntmps72
 go_wp2_with (first|(go_at_call 118;refine(c _).mono ?_;rintro e w2 ⟨rfl,hB2⟩))
 refine bodyPost_ret (results_tmp2 results72 _ _ _) rfl ?_;exact⟨rfl,(HX.out.next hB2).below⟩
theorem q5G (b:UInt8):1≤(qB b).length:=by
 unfold qB;split
 ·simp
 split<;>simp
theorem q2r (x y:UInt8)(l:List UInt8):((⟨#[x]⟩:ByteArray)++⟨l.toArray⟩)++⟨#[y]⟩=⟨(([x]++l)++[y]).toArray⟩:=by
 rw[show(⟨#[x]⟩:ByteArray)++⟨l.toArray⟩=_ from qxF [x] l];exact qxF ([x]++l) [y]
theorem qzG {α:Type}(T:α→List UInt8)(l:List α)(i:Nat)(d:α)(hd:l[i]? = some d):(qc5 T (l.take i)).length+(T d).length≤(qc5 T l).length:=by
 have h:=qfx T l (i+1);by_cases h0:0<i
 ·rw[qjP T l i h0 d hd,List.length_append,List.length_append] at h;omega
 obtain rfl:i=0:=by omega
 rw[qhq T l d hd] at h;rw[List.take_zero];show 0+_≤_;omega
theorem q2V {α:Type}(p:α→Bool)(l:List α)(i:Nat)(d:α)(hd:l[i]? = some d):(l.take (i+1)).any p=((l.take i).any p||p d):=by
 rw[List.take_add_one,hd];simp
theorem q27 {α:Type}(p:α→Bool)(l:List α)(i:Nat)(d:α)(hd:l[i]? = some d)(h:p d=true):l.any p=true:=List.any_eq_true.2 ⟨d,List.mem_of_getElem? hd,h⟩
theorem q4K (k:Nat)(W:World)(F:Nat→Prop)(u:Value)(xs:List Value)(ds:List (DataW Unit))(f:DataW Unit→List UInt8)(h:DataW Unit→Bool)(hF:∀j,F j→j<W.heap.size)(hr:qb1 W 93 5 F u ds.length xs)(ha:∀(i:Nat) (d:DataW Unit),ds[i]? = some d→∃a,qzH xs i a∧qyi k W F (.agg a) d)(hl:(([91]++qc5 f ds)++[93]).length≤149999999)(ih:∀(V:World) (a:Array Value) (d:DataW Unit),(∀j,F j→j<V.heap.size)→qyi k V F (.agg a) d→(f d).length≤149999999→Calls prog 72 #[.agg a] V (JwS (h d) (f d) V)):Calls prog 72 #[.agg (thA 6 0 ⟨#[]⟩ qxE u)] W (JwS (ds.any h) (([91]++qc5 f ds)++[93]) W):=by
 obtain⟨hn,a,cap,rfl,HC⟩:=qyC hr;have HX:Hid (qyP W (thA 6 0 ⟨#[]⟩ qxE (.slice a ds.length cap)) (W.alloc (.cells (thA 6 0 ⟨#[]⟩ qxE (.slice a ds.length cap)) 93))):=qy6 _ _;obtain⟨n,hN⟩:∃n,ds.length=n:=⟨_,rfl⟩
 have hl0:(qc5 f ds).length+2≤149999999:=by simp only[List.length_append,List.length_cons,List.length_nil] at hl;omega
 have HKID:Hid (∀i,i<n→∃e fd hd g kd z s ka ki kj va vi vj,ds[i]? = some e∧f e=fd∧h e=hd∧a=some ⟨g,0,none⟩∧(∀V,Below W.heap.size W V→(V.cell? ⟨g,i*5,none⟩=some (.int .i64 kd)∧V.cell? ⟨g,i*5+1,none⟩=some (.int .i64 z)∧V.cell? ⟨g,i*5+2,none⟩=some (.string s)∧V.cell? ⟨g,i*5+3,none⟩=some (.slice ka ki kj)∧V.cell? ⟨g,i*5+4,none⟩=some (.slice va vi vj))∧Calls prog 72 #[.agg #[.int .i64 kd,.int .i64 z,.string s,.slice ka ki kj,.slice va vi vj]] V (JwS hd fd V))):=fun i hi=>by
  obtain⟨d,hd⟩:∃e,ds[i]? = some e:=⟨_,List.getElem?_eq_getElem (by omega)⟩
  obtain⟨A,hs,hA⟩:=ha i d hd;obtain⟨kd,z,s,ka,ki,kj,va,vi,vj,e⟩:=hA.shape;injection e with e;subst e;obtain⟨g,ea,hg,hc⟩:=HC i _ (by omega) hs;have h1:=qzG f ds i _ hd;refine⟨d,f d,h d,g,kd,z,s,ka,ki,kj,va,vi,vj,hd,rfl,rfl,ea,fun V hV=>⟨?_,ih V _ d (fun j hj=>Nat.lt_of_lt_of_le (hF j hj) hV.size) (hA.same (fun _ h=>h) (fun j hj=>hV.block j (hF j hj))) (by omega)⟩⟩;have hb:=hV.block g (hF g hg);exact⟨hc V hb 0 (by decide),hc V hb 1 (by decide),hc V hb 2 (by decide),hc V hb 3 (by decide),hc V hb 4 (by decide)⟩
 rw[hN] at HX hn;unfold thA qxE at *;go_enter func72,ntmps72;rw[hN];go_wp2
 go_loopg [4,5] n (fun g zs zi wr=>∃(i:Nat) (cur:List UInt8),zs=.string ⟨cur.toArray⟩∧zi=.int .i64 i∧Hid (i+g=n)∧Hid (cur=qc5 f (ds.take i))∧Hid ((ds.take i).any h=false)∧Hid (qyP W #[.int .i64 6,.int .i64 0,.string ⟨#[]⟩,.slice none 0 0,.slice a n cap] wr))
 case atStart=>exact⟨0,[],rfl,rfl,by show _=_;omega,rfl,rfl,HX⟩
 case round =>
  obtain⟨i,cur,rfl,rfl,hg,hcur,hany,HX⟩:=hrel;have c0:=qab HX.out.box 0;have c3:=qab HX.out.box 3;have c4:=qab HX.out.box 4
  cases gk with
  |zero =>
   obtain rfl:i=n:=hg.out;have hlt:¬(i:Int)<(i:Int):=by omega
   have hcl:cur.length+2≤149999999:=by rw[hcur.out,List.take_of_length_le (by omega)];exact hl0
   have g1:¬(1+cur.length>9223372036854775807):=by omega
   have g2:¬(1+cur.length+1>9223372036854775807):=by omega
   have HE:Hid (ds.any h=false∧qc5 f ds=cur):=by have e1:=hcur.out;have e2:=hany.out;rw[List.take_of_length_le (by omega)] at e1 e2;exact⟨e2,e1.symm⟩
   go_wp2;refine bodyPost_ret (results_tmp2 results72 _ _ _) rfl ?_;unfold JwS;rw[HE.out.1,HE.out.2];refine⟨?_,HX.out.below⟩;exact congrArg (fun x=>Ending.returned (Value.tuple #[.string x,.bool true])) (q2r 91 93 cur)
  |succ g =>
   have hin:i<n:=by have:=hg.out;omega
   have hlt:(i:Int)<(n:Int):=by omega
   obtain⟨ee,fd,hd,gb,kd,z,s,ka,ki,kj,va,vi,vj,hee,hfe,hhe,rfl,hk⟩:=HKID.out i hin;have hkl:=hk;obtain⟨⟨k0,k1,k2,k3,k4⟩,_⟩:=hkl _ HX.out.below;have hsum:=qzG f ds i ee hee;rw[←hcur.out,hfe] at hsum;have g0:¬(cur.length+1>9223372036854775807):=by omega
   have g1:¬(cur.length+fd.length>9223372036854775807):=by omega
   have g2:¬(cur.length+1+fd.length>9223372036854775807):=by omega
   have HX0:=HX
   cases hd with
   |true =>
    have HCK:Hid (∀V,Below W.heap.size W V→Calls prog 72 #[.agg #[.int .i64 kd,.int .i64 z,.string s,.slice ka ki kj,.slice va vi vj]] V fun e W'=>e=.returned (.tuple #[.string ⟨#[]⟩,.bool false])∧Below V.heap.size V W'):=fun V hV=>(hkl V hV).2;have HE:=qaa (q27 _ _ _ _ hee hhe);have hi0:(0<(i:Int))∨¬(0<(i:Int)):=by omega
    rcases hi0 with hi0|hi0
    all_goals
     go_wp2_with (first
     |(go_at_call 72;refine(HCK.out _ HX0.out.below).mono ?_;rintro e w3 ⟨rfl,hB3⟩))
     refine bodyPost_ret (results_tmp2 results72 _ _ _) rfl ?_;unfold JwS;rw[HE.out];exact⟨rfl,(HX0.out.next hB3).below⟩
   |false =>
    have HCK:Hid (∀V,Below W.heap.size W V→Calls prog 72 #[.agg #[.int .i64 kd,.int .i64 z,.string s,.slice ka ki kj,.slice va vi vj]] V fun e W'=>e=.returned (.tuple #[.string ⟨fd.toArray⟩,.bool true])∧Below V.heap.size V W'):=fun V hV=>(hkl V hV).2;have HA:Hid ((ds.take (i+1)).any h=false):=by show _=_;rw[q2V _ _ _ _ hee,hany.out,hhe];rfl
    by_cases h0:0<i
    ·have HN:Hid (qc5 f (ds.take (i+1))=(cur++[44])++fd):=by show _=_;rw[qjP _ _ _ h0 _ hee,←hcur.out,hfe]
     have hi0:0<(i:Int):=by omega
     go_wp2_with (first
     |(go_at_call 72;refine(HCK.out _ HX0.out.below).mono ?_;rintro e w3 ⟨rfl,hB3⟩))
     go_roundg g
     case measure=>omega
     case rel=>exact⟨i+1,_,by rw[←qxF,←qxF],by go_num,by show _=_;have:=hg.out;omega,HN.out.symm,HA,HX0.out.next hB3⟩
    obtain rfl:i=0:=by omega
    have HN:Hid (qc5 f (ds.take (0+1))=cur++fd):=by show _=_;rw[qhq _ _ _ hee,hcur.out,hfe];rfl
    go_wp2_with (first
    |(go_at_call 72;refine(HCK.out _ HX0.out.below).mono ?_;rintro e w3 ⟨rfl,hB3⟩))
    go_roundg g
    case measure=>omega
    case rel=>exact⟨0+1,_,by rw[←qxF],by go_num,by show _=_;have:=hg.out;omega,HN.out.symm,HA,HX0.out.next hB3⟩
theorem q6p (k:Nat)(W:World)(F:Nat→Prop)(kv u:Value)(xs:List Value)(es:List (Lit×DataW Unit))(f:DataW Unit→List UInt8)(h:DataW Unit→Bool)(hF:∀j,F j→j<W.heap.size)(hq:qb1 W 9 1 F kv es.length (es.map q6v))(hr:qb1 W 93 5 F u es.length xs)(ha:∀(i:Nat) (key:Lit) (d:DataW Unit),es[i]? = some (key,d)→∃l a,key=.string l∧qzH xs i a∧qyi k W F (.agg a) d)(hl:(([123]++qc5 (q5g f) es)++[125]).length≤149999999)(ih:∀(V:World) (a:Array Value) (d:DataW Unit),(∀j,F j→j<V.heap.size)→qyi k V F (.agg a) d→(f d).length≤149999999→Calls prog 72 #[.agg a] V (JwS (h d) (f d) V)):Calls prog 72 #[.agg (thA 7 0 ⟨#[]⟩ kv u)] W (JwS (es.any (fun e=>h e.2)) (([123]++qc5 (q5g f) es)++[125]) W):=by
 obtain⟨hn,a,cap,rfl,HC⟩:=qyC hr;obtain⟨b,capb,rfl,HQ⟩:=qzZ hq;obtain⟨fe,HFE⟩:∃fe:Lit×DataW Unit→List UInt8,Hid (q5g f=fe):=⟨_,show _=_ from rfl⟩
 obtain⟨he,HHE⟩:∃he:Lit×DataW Unit→Bool,Hid ((fun e=>h e.2)=he):=⟨_,show _=_ from rfl⟩
 rw[HFE.out] at hl ⊢;rw[HHE.out];have HX:Hid (qyP W (thA 7 0 ⟨#[]⟩ (.slice b es.length capb) (.slice a es.length cap)) (W.alloc (.cells (thA 7 0 ⟨#[]⟩ (.slice b es.length capb) (.slice a es.length cap)) 93))):=qy6 _ _;obtain⟨n,hN⟩:∃n,es.length=n:=⟨_,rfl⟩
 have hl0:(qc5 fe es).length+2≤149999999:=by simp only[List.length_append,List.length_cons,List.length_nil] at hl;omega
 have HKID:Hid (∀i,i<n→∃e l fd hd g gk kd z s ka ki kj va vi vj,es[i]? = some e∧fe e=(qT l++[58])++fd∧he e=hd∧l.length≤150000000∧a=some ⟨g,0,none⟩∧b=some ⟨gk,0,none⟩∧(∀V,Below W.heap.size W V→V.cell? ⟨gk,i,none⟩=some (.string ⟨l.toArray⟩)∧(V.cell? ⟨g,i*5,none⟩=some (.int .i64 kd)∧V.cell? ⟨g,i*5+1,none⟩=some (.int .i64 z)∧V.cell? ⟨g,i*5+2,none⟩=some (.string s)∧V.cell? ⟨g,i*5+3,none⟩=some (.slice ka ki kj)∧V.cell? ⟨g,i*5+4,none⟩=some (.slice va vi vj))∧Calls prog 72 #[.agg #[.int .i64 kd,.int .i64 z,.string s,.slice ka ki kj,.slice va vi vj]] V (JwS hd fd V))):=fun i hi=>by
  obtain⟨⟨key,d⟩,hd⟩:∃e,es[i]? = some e:=⟨_,List.getElem?_eq_getElem (by omega)⟩
  obtain⟨l,A,hkl,hs,hA⟩:=ha i key d hd;subst hkl;obtain⟨kd,z,s,ka,ki,kj,va,vi,vj,e⟩:=hA.shape;injection e with e;subst e;obtain⟨g,ea,hg,hc⟩:=HC i _ (by omega) hs;obtain⟨gk,eb,hgk,hck⟩:=HQ i l d hd;have hfe:fe (.string l,d)=(qT l++[58])++f d:=by rw[←HFE.out];rfl
  have h1:=qzG fe es i _ hd;have h3:=qeE qB l fun b _=>q5G b;rw[hfe,List.length_append,List.length_append] at h1;unfold qT at h1;rw[List.length_append,List.length_append] at h1;refine⟨(.string l,d),l,f d,h d,g,gk,kd,z,s,ka,ki,kj,va,vi,vj,hd,hfe,by rw[←HHE.out],by omega,ea,eb,fun V hV=>⟨hck V (hV.block gk (hF gk hgk)),?_,ih V _ d (fun j hj=>Nat.lt_of_lt_of_le (hF j hj) hV.size) (hA.same (fun _ h=>h) (fun j hj=>hV.block j (hF j hj))) (by omega)⟩⟩;have hb:=hV.block g (hF g hg);exact⟨hc V hb 0 (by decide),hc V hb 1 (by decide),hc V hb 2 (by decide),hc V hb 3 (by decide),hc V hb 4 (by decide)⟩
 have cQ:∀(V:World) (l:List UInt8),l.length≤150000000→Calls prog 118 #[.string ⟨l.toArray⟩] V (WrS (qT l) V):=fun V l h=>q1p V l h;rw[hN] at HX hn;unfold thA at *;go_enter func72,ntmps72;rw[hN];go_wp2
 go_loopg [4,5] n (fun g zs zi wr=>∃(i:Nat) (cur:List UInt8),zs=.string ⟨cur.toArray⟩∧zi=.int .i64 i∧Hid (i+g=n)∧Hid (cur=qc5 fe (es.take i))∧Hid ((es.take i).any he=false)∧Hid (qyP W #[.int .i64 7,.int .i64 0,.string ⟨#[]⟩,.slice b n capb,.slice a n cap] wr))
 case atStart=>exact⟨0,[],rfl,rfl,by show _=_;omega,rfl,rfl,HX⟩
 case round =>
  obtain⟨i,cur,rfl,rfl,hg,hcur,hany,HX⟩:=hrel;have c0:=qab HX.out.box 0;have c3:=qab HX.out.box 3;have c4:=qab HX.out.box 4
  cases gk with
  |zero =>
   obtain rfl:i=n:=hg.out;have hlt:¬(i:Int)<(i:Int):=by omega
   have hcl:cur.length+2≤149999999:=by rw[hcur.out,List.take_of_length_le (by omega)];exact hl0
   have g1:¬(1+cur.length>9223372036854775807):=by omega
   have g2:¬(1+cur.length+1>9223372036854775807):=by omega
   have HE:Hid (es.any he=false∧qc5 fe es=cur):=by have e1:=hcur.out;have e2:=hany.out;rw[List.take_of_length_le (by omega)] at e1 e2;exact⟨e2,e1.symm⟩
   go_wp2;refine bodyPost_ret (results_tmp2 results72 _ _ _) rfl ?_;unfold JwS;rw[HE.out.1,HE.out.2];refine⟨?_,HX.out.below⟩;exact congrArg (fun x=>Ending.returned (Value.tuple #[.string x,.bool true])) (q2r 123 125 cur)
  |succ g =>
   have hin:i<n:=by have:=hg.out;omega
   have hlt:(i:Int)<(n:Int):=by omega
   obtain⟨ee,l,fd,hd,gb,gk,kd,z,s,ka,ki,kj,va,vi,vj,hee,hfe,hhe,hll,rfl,rfl,hk⟩:=HKID.out i hin;obtain⟨q,HQ⟩:∃q,Hid (qT l=q):=⟨_,show _=_ from rfl⟩
   have cq:=fun V=>cQ V l hll;rw[HQ.out] at cq hfe;have k5:=(hk _ HX.out.below).1;have hkl:=fun V hV=>(hk V hV).2;obtain⟨⟨k0,k1,k2,k3,k4⟩,_⟩:=hkl _ HX.out.below;have hsum:=qzG fe es i ee hee;rw[←hcur.out,hfe] at hsum;simp only[List.length_append,List.length_singleton] at hsum;have g0:¬(cur.length+1>9223372036854775807):=by omega
   have g1:¬(cur.length+q.length>9223372036854775807):=by omega
   have g2:¬(cur.length+1+q.length>9223372036854775807):=by omega
   have g3:¬(cur.length+q.length+1>9223372036854775807):=by omega
   have g4:¬(cur.length+1+q.length+1>9223372036854775807):=by omega
   have g5:¬(cur.length+q.length+1+fd.length>9223372036854775807):=by omega
   have g6:¬(cur.length+1+q.length+1+fd.length>9223372036854775807):=by omega
   cases hd with
   |true =>
    have HCK:Hid (∀V,Below W.heap.size W V→Calls prog 72 #[.agg #[.int .i64 kd,.int .i64 z,.string s,.slice ka ki kj,.slice va vi vj]] V fun e W'=>e=.returned (.tuple #[.string ⟨#[]⟩,.bool false])∧Below V.heap.size V W'):=fun V hV=>(hkl V hV).2;have HE:=qaa (q27 _ _ _ _ hee hhe);have hi0:(0<(i:Int))∨¬(0<(i:Int)):=by omega
    rcases hi0 with hi0|hi0
    all_goals
     go_wp2_with (first
     |(go_at_call 118;refine(cq _).mono ?_;rintro e w2 ⟨rfl,hB2⟩;unfold qxX;have HX0:=qaa (HX.out.next hB2);obtain⟨⟨k0,k1,k2,k3,k4⟩,_⟩:=hkl _ HX0.out.below;have c0:=qab HX0.out.box 0;have c4:=qab HX0.out.box 4)
     |(go_at_call 72;refine(HCK.out _ HX0.out.below).mono ?_;rintro e w3 ⟨rfl,hB3⟩))
     refine bodyPost_ret (results_tmp2 results72 _ _ _) rfl ?_;unfold JwS;rw[HE.out];exact⟨rfl,(HX0.out.next hB3).below⟩
   |false =>
    have HCK:Hid (∀V,Below W.heap.size W V→Calls prog 72 #[.agg #[.int .i64 kd,.int .i64 z,.string s,.slice ka ki kj,.slice va vi vj]] V fun e W'=>e=.returned (.tuple #[.string ⟨fd.toArray⟩,.bool true])∧Below V.heap.size V W'):=fun V hV=>(hkl V hV).2;have HA:Hid ((es.take (i+1)).any he=false):=by show _=_;rw[q2V _ _ _ _ hee,hany.out,hhe];rfl
    by_cases h0:0<i
    ·have HN:Hid (qc5 fe (es.take (i+1))=(((cur++[44])++q)++[58])++fd):=by show _=_;rw[qjP _ _ _ h0 _ hee,←hcur.out,hfe];simp only[List.append_assoc]
     have hi0:0<(i:Int):=by omega
     go_wp2_with (first
     |(go_at_call 118;refine(cq _).mono ?_;rintro e w2 ⟨rfl,hB2⟩;unfold qxX;have HX0:=qaa (HX.out.next hB2);obtain⟨⟨k0,k1,k2,k3,k4⟩,_⟩:=hkl _ HX0.out.below;have c0:=qab HX0.out.box 0;have c4:=qab HX0.out.box 4)
     |(go_at_call 72;refine(HCK.out _ HX0.out.below).mono ?_;rintro e w3 ⟨rfl,hB3⟩))
     go_roundg g
     case measure=>omega
     case rel=>exact⟨i+1,_,by rw[←qxF,←qxF,←qxF,←qxF],by go_num,by show _=_;have:=hg.out;omega,HN.out.symm,HA,HX0.out.next hB3⟩
    obtain rfl:i=0:=by omega
    have HN:Hid (qc5 fe (es.take (0+1))=((cur++q)++[58])++fd):=by show _=_;rw[qhq _ _ _ hee,hcur.out,hfe];simp only[List.append_assoc];rfl
    go_wp2_with (first
    |(go_at_call 118;refine(cq _).mono ?_;rintro e w2 ⟨rfl,hB2⟩;unfold qxX;have HX0:=qaa (HX.out.next hB2);obtain⟨⟨k0,k1,k2,k3,k4⟩,_⟩:=hkl _ HX0.out.below;have c0:=qab HX0.out.box 0;have c4:=qab HX0.out.box 4)
    |(go_at_call 72;refine(HCK.out _ HX0.out.below).mono ?_;rintro e w3 ⟨rfl,hB3⟩))
    go_roundg g
    case measure=>omega
    case rel=>exact⟨0+1,_,by rw[←qxF,←qxF,←qxF],by go_num,by show _=_;have:=hg.out;omega,HN.out.symm,HA,HX0.out.next hB3⟩
end
end Go.Proofs.YtllcbnfmihfaaaaGreatDoor
