import Derived.Test.YtllcbnfmihfaaaaGreatDoorTq48
import Derived.Test.YtllcbnfmihfaaaaGreatDoorTq44
set_option maxRecDepth 100000
set_option maxHeartbeats 8000000
namespace Go.Proofs.YtllcbnfmihfaaaaGreatDoor
open Go.Proofs.Tryz
variable {V V' W w5:World}{B M S b0 base g lcap:Nat}{cs gv lv' v0:Value}{la:Option Addr}{xs:List Value}
section
open Go.RowKit Go.Lib
theorem q42 (k:Nat)(W:World)(F:Nat→Prop)(fm:Int)(a:Array Value)(d:DataW Unit)(hfm:fm=1∨fm=2∨fm=3)(hF:∀j,F j→j<W.heap.size)(h:qyi k W F (.agg a) d)(ht:TxV k d)(hs:szF k d≤149999999):Calls prog 46 #[.int .i64 fm,.agg a] W (JwS (decide (fm=1)&&qkn k d) (wrO fm k d) W):=by
 have HX:Hid (qyP W a (W.alloc (.cells a 93))):=qy6 _ _;obtain⟨kd,n,s,ka,ki,kj,va,vi,vj,e⟩:=h.shape;injection e with e;have hV:∀V,Below W.heap.size W V→qyi k V F (.agg a) d∧∀j,F j→j<V.heap.size:=fun V hB=>⟨h.same (fun _ h=>h) (fun j hj=>hB.block j (hF j hj)),fun j hj=>Nat.lt_of_lt_of_le (hF j hj) hB.size⟩
 have cJ:=qaa (fun V hB=>q1L k V F a d (hV V hB).2 (hV V hB).1 (Nat.le_trans (qyM k d ht) hs));have cC:=qaa (fun V hB=>q1E k V F a d (hV V hB).2 (hV V hB).1 (by have:=qjz k d;omega));have cP:=qaa (fun V hB=>q2m k V F a d (hV V hB).2 (hV V hB).1 (by have:=qpp k d;omega));have hq:=q0f k d ht;subst e;unfold thA at *;have z0:=qab HX.out.box 0;have z1:=qab HX.out.box 1;have z2:=qab HX.out.box 2;have z3:=qab HX.out.box 3;have z4:=qab HX.out.box 4;rcases hfm with rfl|rfl|rfl
 ·have c:=cJ.out _ HX.out.below;unfold wrO;rw[if_pos rfl,hq,show(decide ((1:Int)=1)&&qkn k d)=qkn k d from rfl];generalize qza k d=R at *;generalize qkn k d=hb at *;unfold JwS at c;go_enter func46,ntmps46
  go_wp2_with (first|(go_at_call 72;refine c.mono ?_;rintro e w2 ⟨rfl,hB2⟩))
  refine bodyPost_ret (results_tmp2 results46 _ _ _) rfl ?_;exact⟨rfl,(HX.out.next hB2).below⟩
 ·have c:=cC.out _ HX.out.below;unfold wrO;rw[if_neg (by decide),if_pos rfl,show(decide ((2:Int)=1)&&qkn k d)=false from rfl];generalize qaU k d=R at *;unfold WrS qxX at c;go_enter func46,ntmps46
  go_wp2_with (first|(go_at_call 73;refine c.mono ?_;rintro e w2 ⟨rfl,hB2⟩))
  refine bodyPost_ret (results_tmp2 results46 _ _ _) rfl ?_;exact⟨rfl,(HX.out.next hB2).below⟩
 have c:=cP.out _ HX.out.below;unfold wrO;rw[if_neg (by decide),if_neg (by decide),show(decide ((3:Int)=1)&&qkn k d)=false from rfl];generalize qcV k d=R at *;unfold WrS qxX at c;go_enter func46,ntmps46
 go_wp2_with (first|(go_at_call 74;refine c.mono ?_;rintro e w2 ⟨rfl,hB2⟩))
 refine bodyPost_ret (results_tmp2 results46 _ _ _) rfl ?_;exact⟨rfl,(HX.out.next hB2).below⟩
def trQ (fin fout d l:Int)(bs:List UInt8):List UInt8×Int×Int :=
 if qf4 fin fout d l=true then (match qgE fin bs d l with
  |.error f=>([],f.1,f.2)
  |.ok dd=>if fout=1∧qkn (d.toNat+1) dd=true then ([],13,0) else (wrO fout (d.toNat+1) dd,0,0))
 else ([],7,0)
def q2I (W:World)(q:List UInt8×Int×Int)(e:Ending)(W':World):Prop:=e=.returned (.tuple #[.string ⟨q.1.toArray⟩,.int .i64 q.2.1,.int .i64 q.2.2])∧Below W.heap.size W W'
theorem qyR {f:Int}(h:qfm f=true):f=1∨f=2∨f=3:=by
 unfold qfm at h;simp at h;omega
theorem q4y (W:World)(fin fout d l:Int)(bs:List UInt8)(h:qf4 fin fout d l=false):Calls prog 24 #[.int .i64 fin,.int .i64 fout,.int .i64 d,.int .i64 l,.string ⟨bs.toArray⟩] W (q2I W ([],7,0)):=by
 have c:∀V f,Calls prog 44 #[.int .i64 f] V fun e W'=>e=.returned (.bool (qfm f))∧V=W':=fun V f=>(qha f V).mono fun e W' h=>⟨h.1,h.2.symm⟩
 have hc:qfm fin=false∨(qfm fin=true∧qfm fout=false)∨(qfm fin=true∧qfm fout=true∧d<1)∨(qfm fin=true∧qfm fout=true∧¬d<1∧16<d)∨(qfm fin=true∧qfm fout=true∧¬d<1∧¬16<d∧l<1)∨(qfm fin=true∧qfm fout=true∧¬d<1∧¬16<d∧¬l<1∧4096<l):=by
  unfold qf4 at h;cases h1:qfm fin
  ·exact .inl rfl
  cases h2:qfm fout
  ·exact .inr (.inl ⟨rfl,rfl⟩)
  rw[h1,h2] at h;by_cases h3:d<1
  ·exact .inr (.inr (.inl ⟨rfl,rfl,h3⟩))
  by_cases h4:16<d
  ·exact .inr (.inr (.inr (.inl ⟨rfl,rfl,h3,h4⟩)))
  by_cases h5:l<1
  ·exact .inr (.inr (.inr (.inr (.inl ⟨rfl,rfl,h3,h4,h5⟩))))
  refine .inr (.inr (.inr (.inr (.inr ⟨rfl,rfl,h3,h4,h5,?_⟩))));rw[decide_eq_true (show 1≤d by omega),decide_eq_true (show d≤16 by omega),decide_eq_true (show 1≤l by omega)] at h;simp at h;omega
 clear h;have c1:=fun V=>c V fin;have c2:=fun V=>c V fout;clear c;rcases hc with h1|⟨h1,h2⟩|⟨h1,h2,h3⟩|⟨h1,h2,h3,h4⟩|⟨h1,h2,h3,h4,h5⟩|⟨h1,h2,h3,h4,h5,h6⟩
 all_goals
  rw[h1] at c1
  try rw[h2] at c2
  clear h1
  try clear h2
  go_enter func24,ntmps24
  go_wp2_with (first
   |(go_at_call 44;refine(c1 _).mono ?_;clear c1;rintro e w1 ⟨rfl,rfl⟩)
   |(go_at_call 44;refine(c2 _).mono ?_;clear c2;rintro e w1 ⟨rfl,rfl⟩))
  refine bodyPost_ret (results_tmp3 results24 _ _ _) rfl ?_;exact⟨rfl,bwR⟩
theorem q2Z (W:World)(fin fout d l:Int)(bs:List UInt8)(h:qf4 fin fout d l=true)(hb:bs.length≤200000000)(R:List UInt8×Int×Int)(hR:(match qgE fin bs d l with
  |.error f=>([],f.1,f.2)
  |.ok dd=>if fout=1∧qkn (d.toNat+1) dd=true then ([],13,0) else (wrO fout (d.toNat+1) dd,0,0))=R):Calls prog 24 #[.int .i64 fin,.int .i64 fout,.int .i64 d,.int .i64 l,.string ⟨bs.toArray⟩] W (q2I W R):=by
 have c:∀V f,Calls prog 44 #[.int .i64 f] V fun e W'=>e=.returned (.bool (qfm f))∧V=W':=fun V f=>(qha f V).mono fun e W' h=>⟨h.1,h.2.symm⟩
 have hc:qfm fin=true∧qfm fout=true∧¬d<1∧¬16<d∧¬l<1∧¬4096<l:=by
  unfold qf4 at h;simp at h;refine⟨?_,?_,?_⟩
  ·exact h.1.1.1.1.1
  ·exact h.1.1.1.1.2
  omega
 obtain⟨h1,h2,h3,h4,h5,h6⟩:=hc;have hfi:=qyR h1;have HFO:=qaa (qyR h2);have cR:=q0H W fin d l bs hfi (by omega) (by omega) (by omega) hb;have HBD:Hid (∀en pl,qgE fin bs d l=.error (en,pl)→en≠0):=qlS fin bs d l (by omega);have c1:=fun V=>c V fin;have c2:=fun V=>c V fout;rw[h1] at c1;rw[h2] at c2;have HL:=qaa (show l≤4096 by omega);obtain⟨k,HK⟩:∃k,Hid (d.toNat+1=k):=⟨_,show _=_ from rfl⟩
 rw[HK.out] at cR hR;have HRR:=qaa hR;clear c h h1 h2 hb hfi hR HK;generalize qgE fin bs d l=D at *;have HCR:=qaa cR;clear cR;go_enter func24,ntmps24
 go_wp2_with (first
  |(go_at_call 44;refine(c1 _).mono ?_;clear c1;rintro e w1 ⟨rfl,rfl⟩)
  |(go_at_call 44;refine(c2 _).mono ?_;clear c2;rintro e w1 ⟨rfl,rfl⟩))
 refine HCR.out.mono ?_;clear HCR h3 h4 h5 h6;rintro e w2 ⟨hB2,hs⟩;have HB2:=qaa hB2;clear hB2
 cases D with
 |error f =>
  obtain rfl:=hs;have hne:(f.1==0)=false:=by simpa using HBD.out f.1 f.2 rfl
  have HR:Hid (([],f.1,f.2)=R):=HRR.out;clear HBD HRR HL HFO;simp only[]
  go_wp2_with (first
   |((with_reducible refine zT 13 47 rfl rfl (w2.heap.size) th0 ?_ ?_);exact⟨rfl,rfl,(qxI w2 _ _).1,thg⟩)
   |((with_reducible refine zF 14 48 rfl rfl (w2.heap.size+1) f ?_ ?_);exact⟨rfl,rfl,sx (by omega) (qxI w2 _ _).2⟩;refine nmd ?_;intro V5 EV5;have HB5:=qaa (EV5▸qxL _ _ _ _ _);have HF5:Hid (V5.heap[w2.heap.size+1]? = some (.cells (qqp f) 95)):=EV5▸qzi;clear EV5;have u0:V5.cell? ⟨w2.heap.size+1,0,none⟩=some (.int .i64 f.1):=qab HF5.out 0))
  refine rgn (S:=fun Z=>Z.heap[w2.heap.size+1]? = some (.cells (qqp f) 95)) HF5.out (by kernel_rfl) ?_;intro hS;refine tkk 0 52 (.pointer (some ⟨w2.heap.size+1,0,none⟩)) (by kernel_rfl) iQ3 hS ?_;refine tk 1 53 (.int .i64 f.1) rfl (by kernel_rfl) iQ3 (fun Z hZ => ?y1) hS ?_
  case y1=>(have hz:Z.cell? ⟨w2.heap.size+1,0,none⟩=some (.int .i64 f.1):=qab hZ 0;go_simp)
  refine tkk 2 54 (.pointer (some ⟨w2.heap.size+1,1,none⟩)) (by kernel_rfl) iQ3 hS ?_;refine tk 3 55 (.int .i64 f.2) rfl (by kernel_rfl) iQ3 (fun Z hZ => ?y2) hS ?_
  case y2=>(have hz:Z.cell? ⟨w2.heap.size+1,1,none⟩=some (.int .i64 f.2):=qab hZ 1;go_simp)
  refine tkk 4 10 (.string ⟨#[]⟩) (by kernel_rfl) iQ3 hS ?_;refine tkk 5 11 (.int .i64 f.1) (by kernel_rfl) iQ3 hS ?_;refine tkk 6 12 (.int .i64 f.2) (by kernel_rfl) iQ3 hS ?_;refine wpAnyH_done (by kernel_rfl) ?_ _;go_simp;go_wp2;refine bodyPost_ret (results_tmp3 results24 _ _ _) rfl ?_;rw[←HR.out];exact⟨rfl,HB2.out.trans (HB5.out.drew.mono HB2.out.size)⟩
 |ok dd =>
  obtain⟨⟨kd,n,s,a1,i1,j1,b1,p1,m1,rfl,hA⟩,hbl,hsz⟩:=hs;have HCW:Hid (∀V,Below w2.heap.size w2 V→Calls prog 46 #[.int .i64 fout,.agg (thA kd n s (.slice a1 i1 j1) (.slice b1 p1 m1))] V (JwS (decide (fout=1)&&qkn k dd) (wrO fout k dd) V)):=fun V hV=>q42 k V (fun j=>W.heap.size≤j∧j<w2.heap.size) fout _ dd HFO.out (fun j hj=>Nat.lt_of_lt_of_le hj.2 hV.size) (hA.same (fun _ h=>h) (fun j hj=>hV.block j hj.2)) (hsz k).2 (by have:=(hsz k).1;have:=HL.out;omega);clear hA hbl hsz HBD HL HFO
  cases hx:(decide (fout=1)&&qkn k dd) with
  |true =>
   have HR:Hid (([],13,0)=R):=by
    have h:=HRR.out;simp only[Bool.and_eq_true,decide_eq_true_eq] at hx;simp only[] at h;rw[if_pos hx] at h;exact h
   rw[hx] at HCW;have HC:Hid (∀V,Below w2.heap.size w2 V→Calls prog 46 #[.int .i64 fout,.agg (thA kd n s (.slice a1 i1 j1) (.slice b1 p1 m1))] V fun e W'=>e=.returned (.tuple #[.string ⟨#[]⟩,.bool false])∧Below V.heap.size V W'):=HCW;clear HCW HRR hx;simp only[]
   go_wp2_with (first
    |((with_reducible refine zT 13 47 rfl rfl (w2.heap.size) (thA kd n s (.slice a1 i1 j1) (.slice b1 p1 m1)) ?_ ?_);exact⟨rfl,rfl,(qxI w2 _ _).1,thg⟩)
    |((with_reducible refine zF 14 48 rfl rfl (w2.heap.size+1) (0,0) ?_ ?_);exact⟨rfl,rfl,sx (by omega) (qxI w2 _ _).2⟩;refine nmd ?_;intro V5 EV5;have HB5:=qaa (EV5▸qxL _ _ _ _ _);have HF5:Hid (V5.heap[w2.heap.size+1]? = some (.cells (qqp (0,0)) 95)):=EV5▸qzi;have HG5:Hid (V5.heap[w2.heap.size]? = some (.cells (thA kd n s (.slice a1 i1 j1) (.slice b1 p1 m1)) 93)):=EV5▸q0p;clear EV5;have u0:V5.cell? ⟨w2.heap.size+1,0,none⟩=some (.int .i64 0):=qab HF5.out 0)
    |((with_reducible refine wpList_load_row rfl 93 (.tmp 13) rfl (w2.heap.size) ?hx 93 (thA kd n s (.slice a1 i1 j1) (.slice b1 p1 m1)) (0,0) _ ?hg underlying93 rfl ?hi ?_);(case hx=>exact rfl);(case hg=>exact HG5.out);(case hi=>exact qyu _ _ _ _ _))
    |(go_at_call 46;refine(HC.out _ HB5.out).mono ?_;clear u0;rintro e w6 ⟨rfl,hB6⟩;have HB6:=qaa (HB5.out.trans (hB6.mono HB5.out.size));clear hB6))
   refine bodyPost_ret (results_tmp3 results24 _ _ _) rfl ?_;rw[←HR.out];exact⟨rfl,HB2.out.trans (HB6.out.mono HB2.out.size)⟩
  |false =>
   have HR:Hid ((wrO fout k dd,0,0)=R):=by
    have h:=HRR.out;simp only[] at h;rw[if_neg (fun hh=>by rw[hh.2,decide_eq_true hh.1] at hx;cases hx)] at h;exact h
   rw[hx] at HCW;have HC:Hid (∀V,Below w2.heap.size w2 V→Calls prog 46 #[.int .i64 fout,.agg (thA kd n s (.slice a1 i1 j1) (.slice b1 p1 m1))] V fun e W'=>e=.returned (.tuple #[.string ⟨(wrO fout k dd).toArray⟩,.bool true])∧Below V.heap.size V W'):=HCW;clear HCW HRR hx;generalize wrO fout k dd=O at *;simp only[]
   go_wp2_with (first
    |((with_reducible refine zT 13 47 rfl rfl (w2.heap.size) (thA kd n s (.slice a1 i1 j1) (.slice b1 p1 m1)) ?_ ?_);exact⟨rfl,rfl,(qxI w2 _ _).1,thg⟩)
    |((with_reducible refine zF 14 48 rfl rfl (w2.heap.size+1) (0,0) ?_ ?_);exact⟨rfl,rfl,sx (by omega) (qxI w2 _ _).2⟩;refine nmd ?_;intro V5 EV5;have HB5:=qaa (EV5▸qxL _ _ _ _ _);have HF5:Hid (V5.heap[w2.heap.size+1]? = some (.cells (qqp (0,0)) 95)):=EV5▸qzi;have HG5:Hid (V5.heap[w2.heap.size]? = some (.cells (thA kd n s (.slice a1 i1 j1) (.slice b1 p1 m1)) 93)):=EV5▸q0p;clear EV5;have u0:V5.cell? ⟨w2.heap.size+1,0,none⟩=some (.int .i64 0):=qab HF5.out 0)
    |((with_reducible refine wpList_load_row rfl 93 (.tmp 13) rfl (w2.heap.size) ?hx 93 (thA kd n s (.slice a1 i1 j1) (.slice b1 p1 m1)) (0,0) _ ?hg underlying93 rfl ?hi ?_);(case hx=>exact rfl);(case hg=>exact HG5.out);(case hi=>exact qyu _ _ _ _ _))
    |(go_at_call 46;refine(HC.out _ HB5.out).mono ?_;clear u0;rintro e w6 ⟨rfl,hB6⟩;have HB6:=qaa (HB5.out.trans (hB6.mono HB5.out.size));clear hB6))
   refine bodyPost_ret (results_tmp3 results24 _ _ _) rfl ?_;rw[←HR.out];exact⟨rfl,HB2.out.trans (HB6.out.mono HB2.out.size)⟩
theorem q3u (W:World)(fin fout d l:Int)(bs:List UInt8)(hb:bs.length≤200000000):Calls prog 24 #[.int .i64 fin,.int .i64 fout,.int .i64 d,.int .i64 l,.string ⟨bs.toArray⟩] W (q2I W (trQ fin fout d l bs)):=by
 unfold trQ
 cases h:qf4 fin fout d l with
 |false=>rw[if_neg (by decide)];exact q4y W fin fout d l bs h
 |true=>rw[if_pos rfl];exact q2Z W fin fout d l bs h hb _ rfl
def q5H (W:World)(q:List UInt8×Int×Int)(e:Ending)(W':World):Prop:=Below W.heap.size W W'∧∃v,e=.returned (.tuple #[v,.int .i64 q.2.1,.int .i64 q.2.2])∧((q.2.1=0∧Own W' W.heap.size v q.1)∨(¬q.2.1=0∧v=.slice none 0 0∧q.1=[]))
theorem q3U (W:World)(fin fout d l:Int)(a:Option Addr)(n c:Nat)(hL:qf4 fin fout d l=false):Calls prog 19 #[.int .i64 fin,.int .i64 fout,.int .i64 d,.int .i64 l,.slice a n c] W (q5H W ([],7,0)):=by
 have HT:Hid (q2b (trW W fin d l (.slice a n c)) W.heap.size fin d l (.slice a n c)):=q4c ..;have HB:Hid (Below W.heap.size W (trW W fin d l (.slice a n c))):=q1v ..;have cL:=qjH fin fout d l (trW W fin d l (.slice a n c));rw[hL] at cL;have c0:=HT.out.b0.cell;have c1:=HT.out.b1.cell;have c2:=HT.out.b2.cell;have HV:Hid (trW W fin d l (.slice a n c)=(((W.alloc (.cells #[.int .i64 fin] 3)).alloc (.cells #[.int .i64 d] 3)).alloc (.cells #[.int .i64 l] 3)).alloc (.cells #[.slice a n c] 28)):=rfl;generalize trW W fin d l (.slice a n c)=V at *;have hv:=HV.out;subst hv;go_enter func19,ntmps19
 go_wp2_with (first
  |(go_at_call 38;refine cL.mono ?_;rintro e w2 ⟨rfl,rfl⟩))
 refine bodyPost_ret (results_tmp3 results19 _ _ _) rfl ?_;exact⟨HB.out,_,rfl,.inr ⟨by decide,rfl,rfl⟩⟩
theorem q3p (W:World)(fin fout d l:Int)(a:Option Addr)(bs:List UInt8)(cap:Nat)(h:qa4 W a bs)(ht:qeK W)(hT:qiG W.heap.size W)(hb:bs.length≤200000000):Calls prog 19 #[.int .i64 fin,.int .i64 fout,.int .i64 d,.int .i64 l,.slice a bs.length cap] W (q5H W (trQ fin fout d l bs)):=by
 unfold trQ
 cases hL:qf4 fin fout d l with
 |false=>rw[if_neg (by decide)];exact q3U W fin fout d l a _ cap hL
 |true =>
  rw[if_pos rfl];have hc:qfm fin=true∧qfm fout=true∧1≤d∧d≤16∧1≤l∧l≤4096:=by
   unfold qf4 at hL;simp at hL;exact⟨hL.1.1.1.1.1,hL.1.1.1.1.2,by omega,by omega,by omega,by omega⟩
  obtain⟨h1,h2,h3,h4,h5,h6⟩:=hc;have hfi:=qyR h1;have hfo:=qyR h2;have hfact:∀dd,qgE fin bs d l=.ok dd→∀k,szF k dd≤1638400∧TxV k dd:=fun dd hdd k=>by
   have cR:=q0H W fin d l bs hfi (by omega) (by omega) (by omega) hb;rw[hdd] at cR;exact q09 cR fun e w' hr=>⟨by have:=(hr.2.2.2 k).1;have:=hr.2.2.1;omega,(hr.2.2.2 k).2⟩
  refine(q0v (d.toNat+1) W fin fout d l a bs.length cap (qgE fin bs d l) (wrO fout (d.toNat+1)) hL (qlS fin bs d l (by omega)) (fun V hB=>qjq V fin a bs cap d l hfi (h.below hB) (ht.below hB) (by omega) (by omega) hb) (fun t y dd V hr hB hD hn => ?_)).mono ?_
  ·obtain⟨hs,hv⟩:=hfact dd hr (d.toNat+1);unfold wrO;rcases hfo with rfl|rfl|rfl
   ·rw[if_pos rfl];exact qhK _ V _ _ dd (fun j hj=>hj) (fun w' hw=>hT w' (hB.trans (hw.mono hB.size))) hD (by rw[q0f _ _ hv];have:=qyM _ _ hv;omega)
   ·rw[if_neg (by decide),if_pos rfl];exact qej _ V _ _ dd (fun j hj=>hj) hD (by have:=qjz (d.toNat+1) dd;omega)
   rw[if_neg (by decide),if_neg (by decide)];exact qhC _ V _ _ dd (fun j hj=>hj) hD (by have:=qpp (d.toNat+1) dd;omega)
  intro e W' hs;have hbad:=qlS fin bs d l (by omega);generalize qgE fin bs d l=D at *;obtain⟨hB,hs⟩:=hs
  cases D with
  |error f =>
   obtain⟨en,pl⟩:=f;exact⟨hB,_,hs,.inr ⟨hbad en pl rfl,rfl,rfl⟩⟩
  |ok dd =>
   simp only[];rcases hs with ⟨k1,k2,k3⟩|⟨k1,v,k2,k3⟩
   ·rw[if_pos ⟨k1,k2⟩];exact⟨hB,_,k3,.inr ⟨by decide,rfl,rfl⟩⟩
   rw[if_neg k1];exact⟨hB,v,k2,.inl ⟨rfl,k3⟩⟩
structure q0k (V:World)(B b0:Nat)(cs gv:Value)(la:Option Addr)(lcap M:Nat)(xs:List Value):Prop where
 wd:q63 B b0 cs gv (.slice la (4*M) lcap) (4*M) xs V
 all:∀(i:Nat) (v:Value),xs[i]? = some v→q1c V v (.int .u8 (mkN i)) 0
 dis:∀(i:Nat) (v:Value) (g:Nat),xs[i]? = some v→v.ownBlock=some g→B<g∧g<V.heap.size∧(Value.slice la (4*M) lcap).ownBlock≠some g
 grp:q30 xs
 big:∀(i:Nat) (a:Option Addr) (n c:Nat),xs[i]? = some (Value.slice a n c)→n≤1000000000
theorem q0k.len (h:q0k V B b0 cs gv la lcap M xs):xs.length=4*M:=by have:=h.wd.row.1;omega
theorem q0k.rd (h:q0k V B b0 cs gv la lcap M xs):q48 V B la (4*M) lcap xs mkN:=by
 refine⟨qab h.wd.wd 2,h.len,fun i v hv => ?_,h.all⟩;rcases h.wd.row.2 with ⟨h1,h2⟩|⟨g,cap,cur,e,h1,h2,h3,h4,h5,h6⟩
 ·have h7:=ltL hv;have:=h.len;omega
 cases e;refine⟨g,rfl,?_⟩;rw[qab h2 i];have h7:=ltL hv;have h8:=h.len;have e5:(cur.toList.take (4*M*1))[i]? = some v:=by rw[h6];exact hv
 rw[List.getElem?_take_of_lt (by omega)] at e5;simpa using e5
theorem q0k.hdis (h:q0k V B b0 cs gv la lcap M xs):∀(i:Nat) (v:Value) (g:Nat),xs[i]? = some v→v.ownBlock=some g→g≠B∧∀gr,la=some ⟨gr,0,none⟩→g≠gr:=fun i v g h1 h2=>by
 obtain⟨k1,k2,k3⟩:=h.dis i v g h1 h2;refine⟨by omega,fun gr e e2=>k3 ?_⟩;subst e;subst e2;rfl
theorem q60 (V:World)(B b0:Nat)(cs gv:Value)(h:V.heap[B]? = some (.cells #[cs,gv,.slice none 0 0] 71)):q0k V B b0 cs gv none 0 0 [] :=
 ⟨⟨h,World.ownsRow_nil _ _ _ _,fun g e=>by cases e⟩,fun i v h=>by simp at h,fun i v g h=>by simp at h,fun i i' v v' g h=>by simp at h,fun i a n c h=>by simp at h⟩
theorem q0k.next (h:q0k V B b0 cs gv la lcap M xs)(hb:Below V.heap.size V V'):q0k V' B b0 cs gv la lcap M xs :=
 ⟨⟨(hb.block B (ltA h.wd.wd)).trans h.wd.wd,qz3 h.wd.row (fun j e=>hb.block j (qy1 h.wd.row e)),h.wd.ne⟩,fun i v hv=>(h.all i v hv).keep (fun g e=>hb.block g (h.dis i v g hv e).2.1),fun i v g h1 h2=>⟨(h.dis i v g h1 h2).1,by have:=(h.dis i v g h1 h2).2.1;have:=hb.size;omega,(h.dis i v g h1 h2).2.2⟩,h.grp,h.big⟩
theorem q0k.more {v1 v2 v3:Value}(h:q0k W B b0 cs gv la lcap M xs)(hk:q3w W B b0 base S (.int .u8 (mkN (4*M))) cs gv (Value.slice la (4*M) lcap).ownBlock [v0,v1,v2,v3] lv' (4*M+4) (xs++[v0,v1,v2,v3]) V)(hbase:∀(i:Nat) (v:Value) (g:Nat),xs[i]? = some v→v.ownBlock=some g→g<base)(hbg:∀v,v∈[v0,v1,v2,v3]→∀a n c,v=.slice a n c→n≤1000000000):∃la' lcap',lv'=.slice la' (4*(M+1)) lcap'∧q0k V B b0 cs gv la' lcap' (M+1) (xs++[v0,v1,v2,v3]):=by
 have hl:=h.len;obtain⟨la',lcap',rfl⟩:=qy4 hk.wd.row;have e4:4*M+4=4*(M+1):=by omega
 have hk':=hk;rw[e4] at hk';refine⟨la',lcap',by rw[e4],?_⟩;have hnew:∀(i:Nat) (v:Value),¬i<4*M→(xs++[v0,v1,v2,v3])[i]? = some v→v∈[v0,v1,v2,v3]∧i / 4=M:=fun i v hi hv=>by
  rw[List.getElem?_append_right (by omega)] at hv;have h5:=ltL hv;simp at h5;exact⟨List.mem_of_getElem? hv,by omega⟩
 have hold:∀(i:Nat) (v:Value),i<4*M→(xs++[v0,v1,v2,v3])[i]? = some v→xs[i]? = some v:=fun i v hi hv=>by
  rwa [List.getElem?_append_left (by omega)] at hv
 have hkeep:∀(i:Nat) (v:Value) (g:Nat),xs[i]? = some v→v.ownBlock=some g→V.heap[g]? = W.heap[g]?:=fun i v g h1 h2=>by
  have h3:=h.dis i v g h1 h2;refine hk.frm.block g h3.2.1 (fun hx => ?_);rcases hx with hx|hx|hx
  ·omega
  ·exact h3.2.2 hx.symm
  have:=hbase i v g h1 h2;omega
 refine⟨hk'.wd,fun i v hv => ?_,fun i v g hv hg => ?_,fun i i' v v' g hv hv' hg hg' => ?_,fun i a n c hv => ?_⟩
 ·by_cases hi:i<4*M
  ·exact(h.all i v (hold i v hi hv)).keep (fun g e=>hkeep i v g (hold i v hi hv) e)
  obtain⟨hm,hd⟩:=hnew i v hi hv;have e:mkN i=mkN (4*M):=by unfold mkN;rw[hd];congr 2;omega
  rw[e];obtain⟨a,n,cap,h1,h2⟩:=(hk.all v hm).1;exact⟨a,n,cap,h1,h2.imp_right fun ⟨g,cur,k1,_,k2,k3,k4⟩=>⟨g,cur,k1,Nat.zero_le _,k2,k3,k4⟩⟩
 ·by_cases hi:i<4*M
  ·have h3:=h.dis i v g (hold i v hi hv) hg;have h4:=hbase i v g (hold i v hi hv) hg;refine⟨h3.1,by have:=hk.frm.size;omega,fun e => ?_⟩;have e':(Value.slice la' (4*M+4) lcap').ownBlock=some g:=by rw[←e];cases la'<;>rfl
   rcases hk.rb g e' with h5|h5
   ·exact h3.2.2 h5.symm
   have:=hk.sz;omega
  obtain⟨hm,hd⟩:=hnew i v hi hv;have h3:=(hk.all v hm).2 g hg;refine⟨by have:=hk.sz;omega,by have:=hk.sz;omega,fun e => ?_⟩;have e':(Value.slice la' (4*M+4) lcap').ownBlock=some g:=by rw[←e];cases la'<;>rfl
  rcases hk.rb g e' with h5|h5
  ·have:=hk.lb g h5.symm;omega
  omega
 ·by_cases hi:i<4*M
  ·by_cases hi':i'<4*M
   ·exact h.grp i i' v v' g (hold i v hi hv) (hold i' v' hi' hv') hg hg'
   have h4:=hbase i v g (hold i v hi hv) hg;obtain⟨hm,hd⟩:=hnew i' v' hi' hv';have:=(hk.all v' hm).2 g hg';omega
  obtain⟨hm,hd⟩:=hnew i v hi hv;by_cases hi':i'<4*M
  ·have h4:=hbase i' v' g (hold i' v' hi' hv') hg';have:=(hk.all v hm).2 g hg;omega
  obtain⟨_,hd'⟩:=hnew i' v' hi' hv';omega
 by_cases hi:i<4*M
 ·exact h.big i a n c (hold i _ hi hv)
 exact hbg _ (hnew i _ hi hv).1 a n c rfl
theorem q3M {w:World}{s:List UInt8}(h:w.heap[g]? = some (.cells (qyZ (s++rm8)) 5))(hs:s.length≤200000000):qa4 w (some ⟨g,0,none⟩) s:=by
 refine⟨fun i hi=>⟨g,0,rfl,(ltA h),?_⟩,by unfold maxLen;omega⟩;rw[Nat.zero_add,qab h i,qyN,List.getElem?_append_left hi,List.getElem?_eq_getElem hi];rfl
theorem q3H {w6:World}{ln:Nat}{a0 a1 a2 a3:Option Addr}{c0 c1 c2 c3:Nat}(hls:q0k W B b0 cs gv la lcap M xs)(hbase:W.heap.size≤base)(e0:v0=.slice a0 ln c0)(hln:ln≤200000000)(hB5:Below W.heap.size W w5)(hk:q3w w5 B b0 base S (.int .u8 (mkN (4*M))) cs gv (Value.slice la (4*M) lcap).ownBlock [v0,.slice a1 (ln+1) c1,.slice a2 (ln+2) c2,.slice a3 (ln+3) c3] lv' (4*M+4) (xs++[v0,.slice a1 (ln+1) c1,.slice a2 (ln+2) c2,.slice a3 (ln+3) c3]) w6):Frm W w6 (fun j=>j=B∨some j=(Value.slice la (4*M) lcap).ownBlock)∧∃la' lcap' xs',q0k w6 B b0 cs gv la' lcap' (M+1) xs':=by
 obtain⟨la',lcap',_,hls'⟩:=(hls.next hB5).more hk (fun i v g h1 h2=>by have:=(hls.dis i v g h1 h2).2.1;omega) (fun v hv a n c e=>by
  simp at hv;rcases hv with rfl|rfl|rfl|rfl
  ·rw[e0] at e;cases e;omega
  ·cases e;omega
  ·cases e;omega
  cases e;omega)
 exact⟨⟨hk.frm.os.trans hB5.os,hk.frm.tape.trans hB5.tape,hk.frm.output.trans hB5.output,Nat.le_trans hB5.size hk.frm.size,fun j hj hx=>(hk.frm.block j (by have:=hB5.size;omega) (fun h=>by
  rcases h with h|h|h
  ·exact hx (.inl h)
  ·exact hx (.inr h)
  omega)).trans (hB5.block j hj)⟩,_,_,_,hls'⟩
theorem q3P (hg:W.heap.size<g)(h1:Below W.heap.size W V)(h2:But g V V'):Below W.heap.size W V' :=
 h1.trans ⟨h2.os,h2.tape,h2.output,h2.size,fun j hj=>h2.block j (by have:=h1.size;omega) (by omega)⟩
theorem q6b {w3 w4:World}{v:Value}{l:List UInt8}(h:Own w3 base v l)(h1:Below w3.heap.size w3 w4)(h2:But g w4 w5)(hg:g<base):Own w5 base v l :=
 ⟨qz3 h.1 (fun j e=>by
  have h3:=qy1 h.1 e;have h4:=qbA h.1 e;have h5:=h1.size;exact(h2.block j (by omega) (by omega)).trans (h1.block j h3)),by have:=h1.size;have:=h2.size;have:=h.2.1;omega,h.2.2⟩
end
end Go.Proofs.YtllcbnfmihfaaaaGreatDoor
