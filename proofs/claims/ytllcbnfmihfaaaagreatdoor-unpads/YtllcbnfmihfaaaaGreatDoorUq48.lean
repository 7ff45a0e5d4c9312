import Derived.Test.YtllcbnfmihfaaaaGreatDoorUq45
import Derived.Test.YtllcbnfmihfaaaaGreatDoorUq47
set_option maxRecDepth 100000
set_option maxHeartbeats 8000000
namespace Go.Proofs.YtllcbnfmihfaaaaGreatDoor
open Go.Proofs.Tryz
section
open Go.RowKit Go.Lib
theorem qmf (k:Nat)(W:World)(bs:List UInt8)(fm d l lim:Int)(i:Nat)(dp:Int)(h1:qaz bs l i=true)(cI:∀V,Calls prog 174 #[.agg (inA bs fm d l),.int .i64 i] V fun e W'=>e=.returned (.bool true)∧Below V.heap.size V W')(hdd:d≤dp)(h2:qaI bs l i 11=(11,(i:Int))):Calls prog 116 #[.agg (inA bs fm d l),.int .i64 i,.int .i64 dp] W (qaK (k+1) bs lim W (.error (11,(i:Int)))):=by
 have cH1:=qap fm d h1
 have cI1:=cI
 unfold inA at cI1
 have hdf:decide (d≤dp)=true:=by simpa using hdd
 have cB1:=qcz fm d h2
 have HX:=qbk W bs fm d l
 clear h1 cI hdd h2
 unfold inA
 go_enter func116,ntmps116
 go_wp2_with (first
  |(go_at_call 113;refine HX.out.ck (cH1 _) ?_;clear cH1;intro w2 HX2 c0 c1 c2 c3)
  |(go_at_call 174;refine HX2.out.ck (cI1 _) ?_;clear cI1 c0 c1 c2 c3;intro w3 HX3 c0 c1 c2 c3)
  |(go_at_call 71;refine HX3.out.ck (cB1 _) ?_;clear cB1 c0 c1 c2 c3;intro w4 HX4 c0 c1 c2 c3)
  |((with_reducible refine zT 6 28 rfl rfl (W.heap.size+1) (th0) ?_ ?_);exact⟨rfl,rfl,HX4.out.th,thg⟩)
  |((with_reducible refine zF 8 31 rfl rfl (W.heap.size+2) (11,(i:Int)) ?_ ?_);exact⟨rfl,rfl,qan HX4.out bwR _⟩))
 have hf:=qao HX4.out bwR (th0) (11,(i:Int))
 refine eoT results116 hf (.int .i64 0) rfl rfl rfl rfl ⟨hf.2.2,?_⟩
 exact⟨_,_,_,_,_,_,_,_,_,_,rfl⟩
theorem qmc (k:Nat)(W:World)(bs:List UInt8)(fm d l lim:Int)(i:Nat)(dp:Int)(F:Int×Int)(hne:(F.1==0)=false)(h1:qaz bs l i=false)(cD:∀V,Calls prog 175 #[.agg (inA bs fm d l),.int .i64 i] V fun e W'=>qbj F e∧Below V.heap.size V W'):Calls prog 116 #[.agg (inA bs fm d l),.int .i64 i,.int .i64 dp] W (qaK (k+1) bs lim W (.error F)):=by
 have cH1:=qap fm d h1
 have cHd:=cD
 unfold inA at cHd
 have HX:=qbk W bs fm d l
 clear h1 cD
 unfold inA
 go_enter func116,ntmps116
 go_wp2_with (first
  |(go_at_call 113;refine HX.out.ck (cH1 _) ?_;clear cH1;intro w2 HX2 c0 c1 c2 c3)
  |(go_at_call 175;refine(cHd _).mono ?_;clear cHd c0 c1 c2 c3;rintro e w6 ⟨⟨a,n,q,o,rfl⟩,hB6⟩;have HX6:=qac (HX2.out.next hB6))
  |((with_reducible refine zH 9 36 rfl rfl (w6.heap.size) a n q o ?_ ?_);exact⟨rfl,rfl,(qak w6 _ _).1⟩)
  |((with_reducible refine zF 10 37 rfl rfl (w6.heap.size+1) (F) ?_ ?_);exact⟨rfl,rfl,sx (by omega) (qak w6 _ _).2⟩;refine nmd ?_;intro V7 EV7;have HX7:Hid (RTh W (inA bs fm d l) V7):=EV7▸HX6.out.next (qar _ _ _ _ _);have HF7:Hid (V7.heap[w6.heap.size+1]? = some (.cells (qae (F)) 95)):=EV7▸qci;have HG7:Hid (V7.heap[w6.heap.size]? = some (.cells (hdC a n q o) 294)):=EV7▸qdf;have hM:W.heap.size+3≤w6.heap.size:=ltA HX6.out.flt;clear EV7;generalize w6.heap.size=M at *;obtain⟨c0,c1,c2,c3⟩:=qa3 HX7.out.box;obtain⟨g0,g1,g2,g3⟩:=qiV HG7.out;have u0:V7.cell? ⟨M+1,0,none⟩=some (.int .i64 (F.1)):=qaa HF7.out 0))
 refine rgn (S:=fun Z=>Z.heap[M+1]? = some (.cells (qae F) 95)) (HF7.out) (by kernel_rfl) ?_
 intro hS
 refine tk 1 42 (.agg (qae F)) rfl (by kernel_rfl) iQ3 (fun Z hZ=>yF 10 hZ rfl rfl) hS ?_
 refine tk 0 41 (.agg th0) rfl (by kernel_rfl) iQ3 (fun Z hZ => ?y0) hS ?_
 case y0=>(unfold th0 thA qaf;go_simp)
 have hS3:=(setRow_other _ (W.heap.size+1) (M+1) th0 (by omega)).trans hS
 refine sTh 2 6 41 (W.heap.size+1) (th0) (by kernel_rfl) (HX7.out.drew.th) thg (hS3) ?_
 refine tkk 3 7 (.int .i64 0) (by kernel_rfl) iQ3 hS3 ?_
 refine sF 4 8 42 (W.heap.size+2) (F) (by kernel_rfl) (qan HX7.out.drew bwR _) (sx (by omega) hS3) ?_
 refine wpAnyH_done (by kernel_rfl) ?_ _
 go_simp
 go_wp2
 have hf:=qao HX7.out.drew bwR (th0) (F)
 refine eoT results116 hf (.int .i64 0) rfl rfl rfl rfl ⟨hf.2.2,?_⟩
 exact⟨_,_,_,_,_,_,_,_,_,_,rfl⟩
theorem qjg (k:Nat)(W:World)(bs:List UInt8)(fm d l lim:Int)(i:Nat)(dp:Int)(F:Int×Int)(hne:(F.1==0)=false)(h1:qaz bs l i=true)(cI:∀V,Calls prog 174 #[.agg (inA bs fm d l),.int .i64 i] V fun e W'=>e=.returned (.bool false)∧Below V.heap.size V W')(cD:∀V,Calls prog 175 #[.agg (inA bs fm d l),.int .i64 i] V fun e W'=>qbj F e∧Below V.heap.size V W'):Calls prog 116 #[.agg (inA bs fm d l),.int .i64 i,.int .i64 dp] W (qaK (k+1) bs lim W (.error F)):=by
 have cH1:=qap fm d h1
 have cI1:=cI
 unfold inA at cI1
 have cHd:=cD
 unfold inA at cHd
 have HX:=qbk W bs fm d l
 clear h1 cI cD
 unfold inA
 go_enter func116,ntmps116
 go_wp2_with (first
  |(go_at_call 113;refine HX.out.ck (cH1 _) ?_;clear cH1;intro w2 HX2 c0 c1 c2 c3)
  |(go_at_call 174;refine HX2.out.ck (cI1 _) ?_;clear cI1 c0 c1 c2 c3;intro w3 HX3 c0 c1 c2 c3)
  |(go_at_call 175;refine(cHd _).mono ?_;clear cHd c0 c1 c2 c3;rintro e w6 ⟨⟨a,n,q,o,rfl⟩,hB6⟩;have HX6:=qac (HX3.out.next hB6))
  |((with_reducible refine zH 9 36 rfl rfl (w6.heap.size) a n q o ?_ ?_);exact⟨rfl,rfl,(qak w6 _ _).1⟩)
  |((with_reducible refine zF 10 37 rfl rfl (w6.heap.size+1) (F) ?_ ?_);exact⟨rfl,rfl,sx (by omega) (qak w6 _ _).2⟩;refine nmd ?_;intro V7 EV7;have HX7:Hid (RTh W (inA bs fm d l) V7):=EV7▸HX6.out.next (qar _ _ _ _ _);have HF7:Hid (V7.heap[w6.heap.size+1]? = some (.cells (qae (F)) 95)):=EV7▸qci;have HG7:Hid (V7.heap[w6.heap.size]? = some (.cells (hdC a n q o) 294)):=EV7▸qdf;have hM:W.heap.size+3≤w6.heap.size:=ltA HX6.out.flt;clear EV7;generalize w6.heap.size=M at *;obtain⟨c0,c1,c2,c3⟩:=qa3 HX7.out.box;obtain⟨g0,g1,g2,g3⟩:=qiV HG7.out;have u0:V7.cell? ⟨M+1,0,none⟩=some (.int .i64 (F.1)):=qaa HF7.out 0))
 refine rgn (S:=fun Z=>Z.heap[M+1]? = some (.cells (qae F) 95)) (HF7.out) (by kernel_rfl) ?_
 intro hS
 refine tk 1 42 (.agg (qae F)) rfl (by kernel_rfl) iQ3 (fun Z hZ=>yF 10 hZ rfl rfl) hS ?_
 refine tk 0 41 (.agg th0) rfl (by kernel_rfl) iQ3 (fun Z hZ => ?y0) hS ?_
 case y0=>(unfold th0 thA qaf;go_simp)
 have hS3:=(setRow_other _ (W.heap.size+1) (M+1) th0 (by omega)).trans hS
 refine sTh 2 6 41 (W.heap.size+1) (th0) (by kernel_rfl) (HX7.out.drew.th) thg (hS3) ?_
 refine tkk 3 7 (.int .i64 0) (by kernel_rfl) iQ3 hS3 ?_
 refine sF 4 8 42 (W.heap.size+2) (F) (by kernel_rfl) (qan HX7.out.drew bwR _) (sx (by omega) hS3) ?_
 refine wpAnyH_done (by kernel_rfl) ?_ _
 go_simp
 go_wp2
 have hf:=qao HX7.out.drew bwR (th0) (F)
 refine eoT results116 hf (.int .i64 0) rfl rfl rfl rfl ⟨hf.2.2,?_⟩
 exact⟨_,_,_,_,_,_,_,_,_,_,rfl⟩
theorem qmD (k:Nat)(W:World)(bs:List UInt8)(fm d l lim:Int)(i:Nat)(dp:Int)(F:Int×Int)(hne:(F.1==0)=false)(h1:qaz bs l i=true)(cI:∀V,Calls prog 174 #[.agg (inA bs fm d l),.int .i64 i] V fun e W'=>e=.returned (.bool true)∧Below V.heap.size V W')(hdd:dp<d)(cD:∀V,Calls prog 175 #[.agg (inA bs fm d l),.int .i64 i] V fun e W'=>qbj F e∧Below V.heap.size V W'):Calls prog 116 #[.agg (inA bs fm d l),.int .i64 i,.int .i64 dp] W (qaK (k+1) bs lim W (.error F)):=by
 have cH1:=qap fm d h1
 have cI1:=cI
 unfold inA at cI1
 have hdf:decide (d≤dp)=false:=by simp;omega
 have cHd:=cD
 unfold inA at cHd
 have HX:=qbk W bs fm d l
 clear h1 cI cD hdd
 unfold inA
 go_enter func116,ntmps116
 go_wp2_with (first
  |(go_at_call 113;refine HX.out.ck (cH1 _) ?_;clear cH1;intro w2 HX2 c0 c1 c2 c3)
  |(go_at_call 174;refine HX2.out.ck (cI1 _) ?_;clear cI1 c0 c1 c2 c3;intro w3 HX3 c0 c1 c2 c3)
  |(go_at_call 175;refine(cHd _).mono ?_;clear cHd c0 c1 c2 c3;rintro e w6 ⟨⟨a,n,q,o,rfl⟩,hB6⟩;have HX6:=qac (HX3.out.next hB6))
  |((with_reducible refine zH 9 36 rfl rfl (w6.heap.size) a n q o ?_ ?_);exact⟨rfl,rfl,(qak w6 _ _).1⟩)
  |((with_reducible refine zF 10 37 rfl rfl (w6.heap.size+1) (F) ?_ ?_);exact⟨rfl,rfl,sx (by omega) (qak w6 _ _).2⟩;refine nmd ?_;intro V7 EV7;have HX7:Hid (RTh W (inA bs fm d l) V7):=EV7▸HX6.out.next (qar _ _ _ _ _);have HF7:Hid (V7.heap[w6.heap.size+1]? = some (.cells (qae (F)) 95)):=EV7▸qci;have HG7:Hid (V7.heap[w6.heap.size]? = some (.cells (hdC a n q o) 294)):=EV7▸qdf;have hM:W.heap.size+3≤w6.heap.size:=ltA HX6.out.flt;clear EV7;generalize w6.heap.size=M at *;obtain⟨c0,c1,c2,c3⟩:=qa3 HX7.out.box;obtain⟨g0,g1,g2,g3⟩:=qiV HG7.out;have u0:V7.cell? ⟨M+1,0,none⟩=some (.int .i64 (F.1)):=qaa HF7.out 0))
 refine rgn (S:=fun Z=>Z.heap[M+1]? = some (.cells (qae F) 95)) (HF7.out) (by kernel_rfl) ?_
 intro hS
 refine tk 1 42 (.agg (qae F)) rfl (by kernel_rfl) iQ3 (fun Z hZ=>yF 10 hZ rfl rfl) hS ?_
 refine tk 0 41 (.agg th0) rfl (by kernel_rfl) iQ3 (fun Z hZ => ?y0) hS ?_
 case y0=>(unfold th0 thA qaf;go_simp)
 have hS3:=(setRow_other _ (W.heap.size+1) (M+1) th0 (by omega)).trans hS
 refine sTh 2 6 41 (W.heap.size+1) (th0) (by kernel_rfl) (HX7.out.drew.th) thg (hS3) ?_
 refine tkk 3 7 (.int .i64 0) (by kernel_rfl) iQ3 hS3 ?_
 refine sF 4 8 42 (W.heap.size+2) (F) (by kernel_rfl) (qan HX7.out.drew bwR _) (sx (by omega) hS3) ?_
 refine wpAnyH_done (by kernel_rfl) ?_ _
 go_simp
 go_wp2
 have hf:=qao HX7.out.drew bwR (th0) (F)
 refine eoT results116 hf (.int .i64 0) rfl rfl rfl rfl ⟨hf.2.2,?_⟩
 exact⟨_,_,_,_,_,_,_,_,_,_,rfl⟩
theorem qiv (k:Nat)(W:World)(bs:List UInt8)(fm d l lim:Int)(i:Nat)(dp:Int)(n:Int)(q:Nat)(hn1 : -9223372036854775808≤n)(hn2:n≤9223372036854775807)(hq:InR bs lim q)(h1:qaz bs l i=true)(cI:∀V,Calls prog 174 #[.agg (inA bs fm d l),.int .i64 i] V fun e W'=>e=.returned (.bool false)∧Below V.heap.size V W')(cD:∀V,Calls prog 175 #[.agg (inA bs fm d l),.int .i64 i] V fun e W'=>e=.returned (.tuple #[.agg (hdC 3 n (q:Int) false),.agg (qae (0,0))])∧Below V.heap.size V W'):Calls prog 116 #[.agg (inA bs fm d l),.int .i64 i,.int .i64 dp] W (qaK (k+1) bs lim W (.ok (.lit (.int .i64 n),q))):=by
 have cH1:=qap fm d h1
 have cI1:=cI
 unfold inA at cI1
 have cHd:=cD
 unfold inA at cHd
 have HQ:Hid (InR bs lim q):=hq
 have HN:Hid (-9223372036854775808≤n∧n≤9223372036854775807):=⟨hn1,hn2⟩
 have HX:=qbk W bs fm d l
 clear h1 cI cD hq hn1 hn2
 unfold inA
 go_enter func116,ntmps116
 go_wp2_with (first
  |(go_at_call 113;refine HX.out.ck (cH1 _) ?_;clear cH1;intro w2 HX2 c0 c1 c2 c3)
  |(go_at_call 174;refine HX2.out.ck (cI1 _) ?_;clear cI1 c0 c1 c2 c3;intro w3 HX3 c0 c1 c2 c3)
  |(go_at_call 175;refine ck (cHd _) HX3.out.next ?_;clear cHd c0 c1 c2 c3;intro w6 HX6)
  |((with_reducible refine zH 9 36 rfl rfl (w6.heap.size) 3 n (q:Int) false ?_ ?_);exact⟨rfl,rfl,(qak w6 _ _).1⟩)
  |((with_reducible refine zF 10 37 rfl rfl (w6.heap.size+1) (0,0) ?_ ?_);exact⟨rfl,rfl,sx (by omega) (qak w6 _ _).2⟩;refine nmd ?_;intro V7 EV7;have HX7:Hid (RTh W (inA bs fm d l) V7):=EV7▸HX6.out.next (qar _ _ _ _ _);have HF7:Hid (V7.heap[w6.heap.size+1]? = some (.cells (qae (0,0)) 95)):=EV7▸qci;have HG7:Hid (V7.heap[w6.heap.size]? = some (.cells (hdC 3 n (q:Int) false) 294)):=EV7▸qdf;have hM:W.heap.size+3≤w6.heap.size:=ltA HX6.out.flt;clear EV7;generalize w6.heap.size=M at *;obtain⟨c0,c1,c2,c3⟩:=qa3 HX7.out.box;obtain⟨g0,g1,g2,g3⟩:=qiV HG7.out;have u0:V7.cell? ⟨M+1,0,none⟩=some (.int .i64 (0)):=qaa HF7.out 0))
 refine rgn (S:=fun Z=>Z.heap[M]? = some (.cells (hdC 3 n (q:Int) false) 294)) (HG7.out) (by kernel_rfl) ?_
 intro hS
 refine tk 0 55 (.pointer (some ⟨M,1,none⟩)) rfl (by kernel_rfl) iQ3 (fun Z hZ => ?y0) hS ?_
 case y0=>(go_simp)
 refine tk 1 56 (.int .i64 n) rfl (by kernel_rfl) iQ3 (fun Z hZ => ?y1) hS ?_
 case y1=>(have hz:Z.cell? ⟨M,1,none⟩=some (.int .i64 n):=qaa hZ 1;go_simp)
 refine tk 2 57 (.agg (thA 3 n ⟨#[]⟩ qaf qaf)) rfl (by kernel_rfl) iQ3 (fun Z hZ => ?y2) hS ?_
 case y2=>(unfold thA qaf;go_simp)
 refine tk 3 58 (.pointer (some ⟨M,2,none⟩)) rfl (by kernel_rfl) iQ3 (fun Z hZ => ?y3) hS ?_
 case y3=>(go_simp)
 refine tk 4 59 (.int .i64 q) rfl (by kernel_rfl) iQ3 (fun Z hZ => ?y4) hS ?_
 case y4=>(have hz:Z.cell? ⟨M,2,none⟩=some (.int .i64 q):=qaa hZ 2;go_simp)
 refine tk 5 60 (.agg (qae (0,0))) rfl (by kernel_rfl) iQ3 (fun Z hZ => ?y5) hS ?_
 case y5=>(unfold qae;go_simp)
 have hS3:=(setRow_other _ (W.heap.size+1) M (thA 3 n ⟨#[]⟩ qaf qaf) (by omega)).trans hS
 refine sTh 6 6 57 (W.heap.size+1) (thA 3 n ⟨#[]⟩ qaf qaf) (by kernel_rfl) (HX7.out.drew.th) thg (hS3) ?_
 refine tkk 7 7 (.int .i64 q) (by kernel_rfl) iQ3 hS3 ?_
 refine sF 8 8 60 (W.heap.size+2) (0,0) (by kernel_rfl) (qan HX7.out.drew bwR _) (sx (by omega) hS3) ?_
 refine wpAnyH_done (by kernel_rfl) ?_ _
 go_simp
 go_wp2
 have hf:=qao HX7.out.drew bwR (thA 3 n ⟨#[]⟩ qaf qaf) (0,0)
 refine eoT results116 hf (.int .i64 q) rfl rfl rfl rfl ⟨hf.2.2,?_⟩
 exact⟨HQ.out,_,_,_,_,_,_,_,_,_,rfl,qbE ⟨rfl,HN.out⟩⟩
theorem qiA (k:Nat)(W:World)(bs:List UInt8)(fm d l lim:Int)(i:Nat)(dp:Int)(n:Int)(q:Nat)(hq:InR bs lim q)(hq0:0<q)(hl:Lm bs l lim)(hb:bs.length≤200000000)(h1:qaz bs l i=true)(cI:∀V,Calls prog 174 #[.agg (inA bs fm d l),.int .i64 i] V fun e W'=>e=.returned (.bool false)∧Below V.heap.size V W')(cD:∀V,Calls prog 175 #[.agg (inA bs fm d l),.int .i64 i] V fun e W'=>e=.returned (.tuple #[.agg (hdC 3 n (q:Int) true),.agg (qae (0,0))])∧Below V.heap.size V W'):Calls prog 116 #[.agg (inA bs fm d l),.int .i64 i,.int .i64 dp] W (qaK (k+1) bs lim W (.error (10,(q:Int)-1))):=by
 have cH1:=qap fm d h1
 have cI1:=cI
 unfold inA at cI1
 have cHd:=cD
 unfold inA at cHd
 have cB1:∀V,Calls prog 71 #[.agg #[.string ⟨bs.toArray⟩,.int .i64 fm,.int .i64 d,.int .i64 l],.int .i64 ((q:Int)-1),.int .i64 10] V fun e W'=>e=.returned (.agg (qae (10,(q:Int)-1)))∧Below V.heap.size V W':=fun V=>by
  obtain⟨r0,rfl⟩:∃r0,q=r0+1:=⟨q-1,by omega⟩
  have h:=qaR V bs fm d l r0 10
  rw[qe1 hl hq,show(r0:Int)=((r0+1:Nat):Int)-1 by omega] at h
  exact h
 have hql:=hq.1
 have HX:=qbk W bs fm d l
 clear h1 cI cD hq hl
 unfold inA
 go_enter func116,ntmps116
 go_wp2_with (first
  |(go_at_call 113;refine HX.out.ck (cH1 _) ?_;clear cH1;intro w2 HX2 c0 c1 c2 c3)
  |(go_at_call 174;refine HX2.out.ck (cI1 _) ?_;clear cI1 c0 c1 c2 c3;intro w3 HX3 c0 c1 c2 c3)
  |(go_at_call 175;refine ck (cHd _) HX3.out.next ?_;clear cHd c0 c1 c2 c3;intro w6 HX6)
  |(go_at_call 71;refine ck (cB1 _) HX7.out.next ?_;clear cB1 c0 c1 c2 c3 g0 g1 g2 g3 u0;intro w8 HX8)
  |((with_reducible refine zH 9 36 rfl rfl (w6.heap.size) 3 n (q:Int) true ?_ ?_);exact⟨rfl,rfl,(qak w6 _ _).1⟩)
  |((with_reducible refine zF 10 37 rfl rfl (w6.heap.size+1) (0,0) ?_ ?_);exact⟨rfl,rfl,sx (by omega) (qak w6 _ _).2⟩;refine nmd ?_;intro V7 EV7;have HX7:Hid (RTh W (inA bs fm d l) V7):=EV7▸HX6.out.next (qar _ _ _ _ _);have HF7:Hid (V7.heap[w6.heap.size+1]? = some (.cells (qae (0,0)) 95)):=EV7▸qci;have HG7:Hid (V7.heap[w6.heap.size]? = some (.cells (hdC 3 n (q:Int) true) 294)):=EV7▸qdf;have hM:W.heap.size+3≤w6.heap.size:=ltA HX6.out.flt;clear EV7;generalize w6.heap.size=M at *;obtain⟨c0,c1,c2,c3⟩:=qa3 HX7.out.box;obtain⟨g0,g1,g2,g3⟩:=qiV HG7.out;have u0:V7.cell? ⟨M+1,0,none⟩=some (.int .i64 (0)):=qaa HF7.out 0)
  |((with_reducible refine zT 6 49 rfl rfl (W.heap.size+1) (th0) ?_ ?_);exact⟨rfl,rfl,HX8.out.th,thg⟩)
  |((with_reducible refine zF 8 54 rfl rfl (W.heap.size+2) (10,(q:Int)-1) ?_ ?_);exact⟨rfl,rfl,qan HX8.out bwR _⟩))
 have hf:=qao HX8.out bwR (th0) (10,(q:Int)-1)
 refine eoT results116 hf (.int .i64 0) rfl rfl rfl rfl ⟨hf.2.2,?_⟩
 exact⟨_,_,_,_,_,_,_,_,_,_,rfl⟩
theorem qlC (k:Nat)(W:World)(bs:List UInt8)(fm d l lim:Int)(i:Nat)(dp:Int)(n:Int)(q:Nat)(o:Bool)(hq:InR bs lim q)(h1:qaz bs l i=true)(cI:∀V,Calls prog 174 #[.agg (inA bs fm d l),.int .i64 i] V fun e W'=>e=.returned (.bool false)∧Below V.heap.size V W')(cD:∀V,Calls prog 175 #[.agg (inA bs fm d l),.int .i64 i] V fun e W'=>e=.returned (.tuple #[.agg (hdC 0 n (q:Int) o),.agg (qae (0,0))])∧Below V.heap.size V W'):Calls prog 116 #[.agg (inA bs fm d l),.int .i64 i,.int .i64 dp] W (qaK (k+1) bs lim W (.ok (.nil,q))):=by
 have cH1:=qap fm d h1
 have cI1:=cI
 unfold inA at cI1
 have cHd:=cD
 unfold inA at cHd
 have HQ:Hid (InR bs lim q):=hq
 have HX:=qbk W bs fm d l
 clear h1 cI cD hq
 unfold inA
 go_enter func116,ntmps116
 go_wp2_with (first
  |(go_at_call 113;refine HX.out.ck (cH1 _) ?_;clear cH1;intro w2 HX2 c0 c1 c2 c3)
  |(go_at_call 174;refine HX2.out.ck (cI1 _) ?_;clear cI1 c0 c1 c2 c3;intro w3 HX3 c0 c1 c2 c3)
  |(go_at_call 175;refine ck (cHd _) HX3.out.next ?_;clear cHd c0 c1 c2 c3;intro w6 HX6)
  |((with_reducible refine zH 9 36 rfl rfl (w6.heap.size) 0 n (q:Int) o ?_ ?_);exact⟨rfl,rfl,(qak w6 _ _).1⟩)
  |((with_reducible refine zF 10 37 rfl rfl (w6.heap.size+1) (0,0) ?_ ?_);exact⟨rfl,rfl,sx (by omega) (qak w6 _ _).2⟩;refine nmd ?_;intro V7 EV7;have HX7:Hid (RTh W (inA bs fm d l) V7):=EV7▸HX6.out.next (qar _ _ _ _ _);have HF7:Hid (V7.heap[w6.heap.size+1]? = some (.cells (qae (0,0)) 95)):=EV7▸qci;have HG7:Hid (V7.heap[w6.heap.size]? = some (.cells (hdC 0 n (q:Int) o) 294)):=EV7▸qdf;have hM:W.heap.size+3≤w6.heap.size:=ltA HX6.out.flt;clear EV7;generalize w6.heap.size=M at *;obtain⟨c0,c1,c2,c3⟩:=qa3 HX7.out.box;obtain⟨g0,g1,g2,g3⟩:=qiV HG7.out;have u0:V7.cell? ⟨M+1,0,none⟩=some (.int .i64 (0)):=qaa HF7.out 0))
 refine rgn (S:=fun Z=>Z.heap[M]? = some (.cells (hdC 0 n (q:Int) o) 294)) (HG7.out) (by kernel_rfl) ?_
 intro hS
 refine tk 0 93 (.pointer (some ⟨M,0,none⟩)) rfl (by kernel_rfl) iQ3 (fun Z hZ => ?y0) hS ?_
 case y0=>(go_simp)
 refine tk 1 94 (.int .i64 0) rfl (by kernel_rfl) iQ3 (fun Z hZ => ?y1) hS ?_
 case y1=>(have hz:Z.cell? ⟨M,0,none⟩=some (.int .i64 0):=qaa hZ 0;go_simp)
 refine tk 2 95 (.agg (thA 0 0 ⟨#[]⟩ qaf qaf)) rfl (by kernel_rfl) iQ3 (fun Z hZ => ?y2) hS ?_
 case y2=>(unfold thA qaf;go_simp)
 refine tk 3 96 (.pointer (some ⟨M,2,none⟩)) rfl (by kernel_rfl) iQ3 (fun Z hZ => ?y3) hS ?_
 case y3=>(go_simp)
 refine tk 4 97 (.int .i64 q) rfl (by kernel_rfl) iQ3 (fun Z hZ => ?y4) hS ?_
 case y4=>(have hz:Z.cell? ⟨M,2,none⟩=some (.int .i64 q):=qaa hZ 2;go_simp)
 refine tk 5 98 (.agg (qae (0,0))) rfl (by kernel_rfl) iQ3 (fun Z hZ => ?y5) hS ?_
 case y5=>(unfold qae;go_simp)
 have hS3:=(setRow_other _ (W.heap.size+1) M (thA 0 0 ⟨#[]⟩ qaf qaf) (by omega)).trans hS
 refine sTh 6 6 95 (W.heap.size+1) (thA 0 0 ⟨#[]⟩ qaf qaf) (by kernel_rfl) (HX7.out.drew.th) thg (hS3) ?_
 refine tkk 7 7 (.int .i64 q) (by kernel_rfl) iQ3 hS3 ?_
 refine sF 8 8 98 (W.heap.size+2) (0,0) (by kernel_rfl) (qan HX7.out.drew bwR _) (sx (by omega) hS3) ?_
 refine wpAnyH_done (by kernel_rfl) ?_ _
 go_simp
 go_wp2
 have hf:=qao HX7.out.drew bwR (thA 0 0 ⟨#[]⟩ qaf qaf) (0,0)
 refine eoT results116 hf (.int .i64 q) rfl rfl rfl rfl ⟨hf.2.2,?_⟩
 exact⟨HQ.out,_,_,_,_,_,_,_,_,_,rfl,qbE rfl⟩
theorem qkI (k:Nat)(W:World)(bs:List UInt8)(fm d l lim:Int)(i:Nat)(dp:Int)(n:Int)(q:Nat)(o:Bool)(hq:InR bs lim q)(h1:qaz bs l i=true)(cI:∀V,Calls prog 174 #[.agg (inA bs fm d l),.int .i64 i] V fun e W'=>e=.returned (.bool false)∧Below V.heap.size V W')(cD:∀V,Calls prog 175 #[.agg (inA bs fm d l),.int .i64 i] V fun e W'=>e=.returned (.tuple #[.agg (hdC 1 n (q:Int) o),.agg (qae (0,0))])∧Below V.heap.size V W'):Calls prog 116 #[.agg (inA bs fm d l),.int .i64 i,.int .i64 dp] W (qaK (k+1) bs lim W (.ok (.lit (.bool false),q))):=by
 have cH1:=qap fm d h1
 have cI1:=cI
 unfold inA at cI1
 have cHd:=cD
 unfold inA at cHd
 have HQ:Hid (InR bs lim q):=hq
 have HX:=qbk W bs fm d l
 clear h1 cI cD hq
 unfold inA
 go_enter func116,ntmps116
 go_wp2_with (first
  |(go_at_call 113;refine HX.out.ck (cH1 _) ?_;clear cH1;intro w2 HX2 c0 c1 c2 c3)
  |(go_at_call 174;refine HX2.out.ck (cI1 _) ?_;clear cI1 c0 c1 c2 c3;intro w3 HX3 c0 c1 c2 c3)
  |(go_at_call 175;refine ck (cHd _) HX3.out.next ?_;clear cHd c0 c1 c2 c3;intro w6 HX6)
  |((with_reducible refine zH 9 36 rfl rfl (w6.heap.size) 1 n (q:Int) o ?_ ?_);exact⟨rfl,rfl,(qak w6 _ _).1⟩)
  |((with_reducible refine zF 10 37 rfl rfl (w6.heap.size+1) (0,0) ?_ ?_);exact⟨rfl,rfl,sx (by omega) (qak w6 _ _).2⟩;refine nmd ?_;intro V7 EV7;have HX7:Hid (RTh W (inA bs fm d l) V7):=EV7▸HX6.out.next (qar _ _ _ _ _);have HF7:Hid (V7.heap[w6.heap.size+1]? = some (.cells (qae (0,0)) 95)):=EV7▸qci;have HG7:Hid (V7.heap[w6.heap.size]? = some (.cells (hdC 1 n (q:Int) o) 294)):=EV7▸qdf;have hM:W.heap.size+3≤w6.heap.size:=ltA HX6.out.flt;clear EV7;generalize w6.heap.size=M at *;obtain⟨c0,c1,c2,c3⟩:=qa3 HX7.out.box;obtain⟨g0,g1,g2,g3⟩:=qiV HG7.out;have u0:V7.cell? ⟨M+1,0,none⟩=some (.int .i64 (0)):=qaa HF7.out 0))
 refine rgn (S:=fun Z=>Z.heap[M]? = some (.cells (hdC 1 n (q:Int) o) 294)) (HG7.out) (by kernel_rfl) ?_
 intro hS
 refine tk 0 93 (.pointer (some ⟨M,0,none⟩)) rfl (by kernel_rfl) iQ3 (fun Z hZ => ?y0) hS ?_
 case y0=>(go_simp)
 refine tk 1 94 (.int .i64 1) rfl (by kernel_rfl) iQ3 (fun Z hZ => ?y1) hS ?_
 case y1=>(have hz:Z.cell? ⟨M,0,none⟩=some (.int .i64 1):=qaa hZ 0;go_simp)
 refine tk 2 95 (.agg (thA 1 0 ⟨#[]⟩ qaf qaf)) rfl (by kernel_rfl) iQ3 (fun Z hZ => ?y2) hS ?_
 case y2=>(unfold thA qaf;go_simp)
 refine tk 3 96 (.pointer (some ⟨M,2,none⟩)) rfl (by kernel_rfl) iQ3 (fun Z hZ => ?y3) hS ?_
 case y3=>(go_simp)
 refine tk 4 97 (.int .i64 q) rfl (by kernel_rfl) iQ3 (fun Z hZ => ?y4) hS ?_
 case y4=>(have hz:Z.cell? ⟨M,2,none⟩=some (.int .i64 q):=qaa hZ 2;go_simp)
 refine tk 5 98 (.agg (qae (0,0))) rfl (by kernel_rfl) iQ3 (fun Z hZ => ?y5) hS ?_
 case y5=>(unfold qae;go_simp)
 have hS3:=(setRow_other _ (W.heap.size+1) M (thA 1 0 ⟨#[]⟩ qaf qaf) (by omega)).trans hS
 refine sTh 6 6 95 (W.heap.size+1) (thA 1 0 ⟨#[]⟩ qaf qaf) (by kernel_rfl) (HX7.out.drew.th) thg (hS3) ?_
 refine tkk 7 7 (.int .i64 q) (by kernel_rfl) iQ3 hS3 ?_
 refine sF 8 8 98 (W.heap.size+2) (0,0) (by kernel_rfl) (qan HX7.out.drew bwR _) (sx (by omega) hS3) ?_
 refine wpAnyH_done (by kernel_rfl) ?_ _
 go_simp
 go_wp2
 have hf:=qao HX7.out.drew bwR (thA 1 0 ⟨#[]⟩ qaf qaf) (0,0)
 refine eoT results116 hf (.int .i64 q) rfl rfl rfl rfl ⟨hf.2.2,?_⟩
 exact⟨HQ.out,_,_,_,_,_,_,_,_,_,rfl,qbE rfl⟩
theorem qlr (k:Nat)(W:World)(bs:List UInt8)(fm d l lim:Int)(i:Nat)(dp:Int)(n:Int)(q:Nat)(o:Bool)(hq:InR bs lim q)(h1:qaz bs l i=true)(cI:∀V,Calls prog 174 #[.agg (inA bs fm d l),.int .i64 i] V fun e W'=>e=.returned (.bool false)∧Below V.heap.size V W')(cD:∀V,Calls prog 175 #[.agg (inA bs fm d l),.int .i64 i] V fun e W'=>e=.returned (.tuple #[.agg (hdC 2 n (q:Int) o),.agg (qae (0,0))])∧Below V.heap.size V W'):Calls prog 116 #[.agg (inA bs fm d l),.int .i64 i,.int .i64 dp] W (qaK (k+1) bs lim W (.ok (.lit (.bool true),q))):=by
 have cH1:=qap fm d h1
 have cI1:=cI
 unfold inA at cI1
 have cHd:=cD
 unfold inA at cHd
 have HQ:Hid (InR bs lim q):=hq
 have HX:=qbk W bs fm d l
 clear h1 cI cD hq
 unfold inA
 go_enter func116,ntmps116
 go_wp2_with (first
  |(go_at_call 113;refine HX.out.ck (cH1 _) ?_;clear cH1;intro w2 HX2 c0 c1 c2 c3)
  |(go_at_call 174;refine HX2.out.ck (cI1 _) ?_;clear cI1 c0 c1 c2 c3;intro w3 HX3 c0 c1 c2 c3)
  |(go_at_call 175;refine ck (cHd _) HX3.out.next ?_;clear cHd c0 c1 c2 c3;intro w6 HX6)
  |((with_reducible refine zH 9 36 rfl rfl (w6.heap.size) 2 n (q:Int) o ?_ ?_);exact⟨rfl,rfl,(qak w6 _ _).1⟩)
  |((with_reducible refine zF 10 37 rfl rfl (w6.heap.size+1) (0,0) ?_ ?_);exact⟨rfl,rfl,sx (by omega) (qak w6 _ _).2⟩;refine nmd ?_;intro V7 EV7;have HX7:Hid (RTh W (inA bs fm d l) V7):=EV7▸HX6.out.next (qar _ _ _ _ _);have HF7:Hid (V7.heap[w6.heap.size+1]? = some (.cells (qae (0,0)) 95)):=EV7▸qci;have HG7:Hid (V7.heap[w6.heap.size]? = some (.cells (hdC 2 n (q:Int) o) 294)):=EV7▸qdf;have hM:W.heap.size+3≤w6.heap.size:=ltA HX6.out.flt;clear EV7;generalize w6.heap.size=M at *;obtain⟨c0,c1,c2,c3⟩:=qa3 HX7.out.box;obtain⟨g0,g1,g2,g3⟩:=qiV HG7.out;have u0:V7.cell? ⟨M+1,0,none⟩=some (.int .i64 (0)):=qaa HF7.out 0))
 refine rgn (S:=fun Z=>Z.heap[M]? = some (.cells (hdC 2 n (q:Int) o) 294)) (HG7.out) (by kernel_rfl) ?_
 intro hS
 refine tk 0 93 (.pointer (some ⟨M,0,none⟩)) rfl (by kernel_rfl) iQ3 (fun Z hZ => ?y0) hS ?_
 case y0=>(go_simp)
 refine tk 1 94 (.int .i64 2) rfl (by kernel_rfl) iQ3 (fun Z hZ => ?y1) hS ?_
 case y1=>(have hz:Z.cell? ⟨M,0,none⟩=some (.int .i64 2):=qaa hZ 0;go_simp)
 refine tk 2 95 (.agg (thA 2 0 ⟨#[]⟩ qaf qaf)) rfl (by kernel_rfl) iQ3 (fun Z hZ => ?y2) hS ?_
 case y2=>(unfold thA qaf;go_simp)
 refine tk 3 96 (.pointer (some ⟨M,2,none⟩)) rfl (by kernel_rfl) iQ3 (fun Z hZ => ?y3) hS ?_
 case y3=>(go_simp)
 refine tk 4 97 (.int .i64 q) rfl (by kernel_rfl) iQ3 (fun Z hZ => ?y4) hS ?_
 case y4=>(have hz:Z.cell? ⟨M,2,none⟩=some (.int .i64 q):=qaa hZ 2;go_simp)
 refine tk 5 98 (.agg (qae (0,0))) rfl (by kernel_rfl) iQ3 (fun Z hZ => ?y5) hS ?_
 case y5=>(unfold qae;go_simp)
 have hS3:=(setRow_other _ (W.heap.size+1) M (thA 2 0 ⟨#[]⟩ qaf qaf) (by omega)).trans hS
 refine sTh 6 6 95 (W.heap.size+1) (thA 2 0 ⟨#[]⟩ qaf qaf) (by kernel_rfl) (HX7.out.drew.th) thg (hS3) ?_
 refine tkk 7 7 (.int .i64 q) (by kernel_rfl) iQ3 hS3 ?_
 refine sF 8 8 98 (W.heap.size+2) (0,0) (by kernel_rfl) (qan HX7.out.drew bwR _) (sx (by omega) hS3) ?_
 refine wpAnyH_done (by kernel_rfl) ?_ _
 go_simp
 go_wp2
 have hf:=qao HX7.out.drew bwR (thA 2 0 ⟨#[]⟩ qaf qaf) (0,0)
 refine eoT results116 hf (.int .i64 q) rfl rfl rfl rfl ⟨hf.2.2,?_⟩
 exact⟨HQ.out,_,_,_,_,_,_,_,_,_,rfl,qbE rfl⟩
theorem qlB (k:Nat)(W:World)(bs:List UInt8)(fm d l lim:Int)(i:Nat)(dp:Int)(n:Int)(q:Nat)(o:Bool)(f:Int×Int)(cR:∀V,Calls prog 176 #[.agg (inA bs fm d l),.int .i64 q,.int .i64 n,.bool true] V fun e W'=>e=.returned (.tuple #[.string ⟨#[]⟩,.int .i64 0,.agg (qae (f))])∧Below V.heap.size V W')(h1:qaz bs l i=true)(cI:∀V,Calls prog 174 #[.agg (inA bs fm d l),.int .i64 i] V fun e W'=>e=.returned (.bool false)∧Below V.heap.size V W')(cD:∀V,Calls prog 175 #[.agg (inA bs fm d l),.int .i64 i] V fun e W'=>e=.returned (.tuple #[.agg (hdC 4 n (q:Int) o),.agg (qae (0,0))])∧Below V.heap.size V W'):Calls prog 116 #[.agg (inA bs fm d l),.int .i64 i,.int .i64 dp] W (qaK (k+1) bs lim W (.error f)):=by
 have cH1:=qap fm d h1
 have cI1:=cI
 unfold inA at cI1
 have cHd:=cD
 unfold inA at cHd
 have cR1:=cR
 unfold inA at cR1
 have HX:=qbk W bs fm d l
 clear h1 cI cD cR
 unfold inA
 go_enter func116,ntmps116
 go_wp2_with (first
  |(go_at_call 113;refine HX.out.ck (cH1 _) ?_;clear cH1;intro w2 HX2 c0 c1 c2 c3)
  |(go_at_call 174;refine HX2.out.ck (cI1 _) ?_;clear cI1 c0 c1 c2 c3;intro w3 HX3 c0 c1 c2 c3)
  |(go_at_call 175;refine ck (cHd _) HX3.out.next ?_;clear cHd c0 c1 c2 c3;intro w6 HX6)
  |(go_at_call 176;refine ckB (cR1 _) HX7.out.next ?_;clear cR1 c0 c1 c2 c3 g0 g1 g2 g3 u0;intro w8 hB8 HX8;have HG8:Hid (w8.heap[M]? = some (.cells (hdC 4 n (q:Int) o) 294)):=(hB8.block _ (ltA HG7.out)).trans HG7.out;have hM8:M<w8.heap.size:=ltA HG8.out)
  |((with_reducible refine zH 9 36 rfl rfl (w6.heap.size) 4 n (q:Int) o ?_ ?_);exact⟨rfl,rfl,(qak w6 _ _).1⟩)
  |((with_reducible refine zF 10 37 rfl rfl (w6.heap.size+1) (0,0) ?_ ?_);exact⟨rfl,rfl,sx (by omega) (qak w6 _ _).2⟩;refine nmd ?_;intro V7 EV7;have HX7:Hid (RTh W (inA bs fm d l) V7):=EV7▸HX6.out.next (qar _ _ _ _ _);have HF7:Hid (V7.heap[w6.heap.size+1]? = some (.cells (qae (0,0)) 95)):=EV7▸qci;have HG7:Hid (V7.heap[w6.heap.size]? = some (.cells (hdC 4 n (q:Int) o) 294)):=EV7▸qdf;have hM:W.heap.size+3≤w6.heap.size:=ltA HX6.out.flt;clear EV7;generalize w6.heap.size=M at *;obtain⟨c0,c1,c2,c3⟩:=qa3 HX7.out.box;obtain⟨g0,g1,g2,g3⟩:=qiV HG7.out;have u0:V7.cell? ⟨M+1,0,none⟩=some (.int .i64 (0)):=qaa HF7.out 0)
  |((with_reducible refine zF 13 76 rfl rfl (w8.heap.size) (f) ?_ ?_);exact⟨rfl,rfl,qab w8 _⟩;refine nmd ?_;intro V9 EV9;have HX9:Hid (RTh W (inA bs fm d l) V9):=EV9▸HX8.out.next (qal _ _);have HF9:Hid (V9.heap[w8.heap.size]? = some (.cells (qae (f)) 95)):=EV9▸setRow_heap _ _ _ _ _ _ (qab _ _);have HG9:Hid (V9.heap[M]? = some (.cells (hdC 4 n (q:Int) o) 294)):=EV9▸((qal w8 _).block _ hM8).trans HG8.out;clear EV9;generalize w8.heap.size=M2 at *))
 refine rgn (S:=fun Z=>Z.heap[M]? = some (.cells (hdC 4 n (q:Int) o) 294)∧Z.heap[M2]? = some (.cells (qae (f)) 95)) (⟨HG9.out,HF9.out⟩) (by kernel_rfl) ?_
 intro hS
 refine tk 5 82 (.agg (qae (f))) rfl (by kernel_rfl) iQ3 (fun Z hZ=>yF 13 hZ.2 rfl rfl) hS ?_
 refine tk 0 77 (.pointer (some ⟨M,0,none⟩)) rfl (by kernel_rfl) iQ3 (fun Z hZ => ?y0) hS ?_
 case y0=>(go_simp)
 refine tk 1 78 (.int .i64 4) rfl (by kernel_rfl) iQ3 (fun Z hZ => ?y1) hS ?_
 case y1=>(have hz:Z.cell? ⟨M,0,none⟩=some (.int .i64 4):=qaa hZ.1 0;go_simp)
 refine tkk 2 79 (.string ⟨#[]⟩) (by kernel_rfl) iQ3 hS ?_
 refine tk 3 80 (.agg (thA 4 0 ⟨#[]⟩ qaf qaf)) rfl (by kernel_rfl) iQ3 (fun Z hZ => ?y3) hS ?_
 case y3=>(unfold thA qaf;go_simp)
 refine tkk 4 81 (.int .i64 0) (by kernel_rfl) iQ3 hS ?_
 have hS3:=And.intro ((setRow_other _ (W.heap.size+1) M (thA 4 0 ⟨#[]⟩ qaf qaf) (by omega)).trans hS.1) ((setRow_other _ (W.heap.size+1) M2 (thA 4 0 ⟨#[]⟩ qaf qaf) (by omega)).trans hS.2)
 refine sTh 6 6 80 (W.heap.size+1) (thA 4 0 ⟨#[]⟩ qaf qaf) (by kernel_rfl) (HX9.out.drew.th) thg (hS3) ?_
 refine tkk 7 7 (.int .i64 0) (by kernel_rfl) iQ3 hS3 ?_
 refine sF 8 8 82 (W.heap.size+2) (f) (by kernel_rfl) (qan HX9.out.drew bwR _) (⟨sx (by omega) hS3.1,sx (by omega) hS3.2⟩) ?_
 refine wpAnyH_done (by kernel_rfl) ?_ _
 go_simp
 go_wp2
 have hf:=qao HX9.out.drew bwR (thA 4 0 ⟨#[]⟩ qaf qaf) (f)
 refine eoT results116 hf (.int .i64 0) rfl rfl rfl rfl ⟨hf.2.2,?_⟩
 exact⟨_,_,_,_,_,_,_,_,_,_,rfl⟩
theorem qlT (k:Nat)(W:World)(bs:List UInt8)(fm d l lim:Int)(i:Nat)(dp:Int)(n:Int)(q:Nat)(o:Bool)(lx:List UInt8)(r:Nat)(hq:InR bs lim r)(cR:∀V,Calls prog 176 #[.agg (inA bs fm d l),.int .i64 q,.int .i64 n,.bool true] V fun e W'=>e=.returned (.tuple #[.string ⟨lx.toArray⟩,.int .i64 r,.agg (qae (0,0))])∧Below V.heap.size V W')(h1:qaz bs l i=true)(cI:∀V,Calls prog 174 #[.agg (inA bs fm d l),.int .i64 i] V fun e W'=>e=.returned (.bool false)∧Below V.heap.size V W')(cD:∀V,Calls prog 175 #[.agg (inA bs fm d l),.int .i64 i] V fun e W'=>e=.returned (.tuple #[.agg (hdC 4 n (q:Int) o),.agg (qae (0,0))])∧Below V.heap.size V W'):Calls prog 116 #[.agg (inA bs fm d l),.int .i64 i,.int .i64 dp] W (qaK (k+1) bs lim W (.ok (.lit (.string lx),r))):=by
 have cH1:=qap fm d h1
 have cI1:=cI
 unfold inA at cI1
 have cHd:=cD
 unfold inA at cHd
 have cR1:=cR
 unfold inA at cR1
 have HQ:Hid (InR bs lim r):=hq
 have HX:=qbk W bs fm d l
 clear h1 cI cD cR hq
 unfold inA
 go_enter func116,ntmps116
 go_wp2_with (first
  |(go_at_call 113;refine HX.out.ck (cH1 _) ?_;clear cH1;intro w2 HX2 c0 c1 c2 c3)
  |(go_at_call 174;refine HX2.out.ck (cI1 _) ?_;clear cI1 c0 c1 c2 c3;intro w3 HX3 c0 c1 c2 c3)
  |(go_at_call 175;refine ck (cHd _) HX3.out.next ?_;clear cHd c0 c1 c2 c3;intro w6 HX6)
  |(go_at_call 176;refine ckB (cR1 _) HX7.out.next ?_;clear cR1 c0 c1 c2 c3 g0 g1 g2 g3 u0;intro w8 hB8 HX8;have HG8:Hid (w8.heap[M]? = some (.cells (hdC 4 n (q:Int) o) 294)):=(hB8.block _ (ltA HG7.out)).trans HG7.out;have hM8:M<w8.heap.size:=ltA HG8.out)
  |((with_reducible refine zH 9 36 rfl rfl (w6.heap.size) 4 n (q:Int) o ?_ ?_);exact⟨rfl,rfl,(qak w6 _ _).1⟩)
  |((with_reducible refine zF 10 37 rfl rfl (w6.heap.size+1) (0,0) ?_ ?_);exact⟨rfl,rfl,sx (by omega) (qak w6 _ _).2⟩;refine nmd ?_;intro V7 EV7;have HX7:Hid (RTh W (inA bs fm d l) V7):=EV7▸HX6.out.next (qar _ _ _ _ _);have HF7:Hid (V7.heap[w6.heap.size+1]? = some (.cells (qae (0,0)) 95)):=EV7▸qci;have HG7:Hid (V7.heap[w6.heap.size]? = some (.cells (hdC 4 n (q:Int) o) 294)):=EV7▸qdf;have hM:W.heap.size+3≤w6.heap.size:=ltA HX6.out.flt;clear EV7;generalize w6.heap.size=M at *;obtain⟨c0,c1,c2,c3⟩:=qa3 HX7.out.box;obtain⟨g0,g1,g2,g3⟩:=qiV HG7.out;have u0:V7.cell? ⟨M+1,0,none⟩=some (.int .i64 (0)):=qaa HF7.out 0)
  |((with_reducible refine zF 13 76 rfl rfl (w8.heap.size) (0,0) ?_ ?_);exact⟨rfl,rfl,qab w8 _⟩;refine nmd ?_;intro V9 EV9;have HX9:Hid (RTh W (inA bs fm d l) V9):=EV9▸HX8.out.next (qal _ _);have HF9:Hid (V9.heap[w8.heap.size]? = some (.cells (qae (0,0)) 95)):=EV9▸setRow_heap _ _ _ _ _ _ (qab _ _);have HG9:Hid (V9.heap[M]? = some (.cells (hdC 4 n (q:Int) o) 294)):=EV9▸((qal w8 _).block _ hM8).trans HG8.out;clear EV9;generalize w8.heap.size=M2 at *))
 refine rgn (S:=fun Z=>Z.heap[M]? = some (.cells (hdC 4 n (q:Int) o) 294)∧Z.heap[M2]? = some (.cells (qae (0,0)) 95)) (⟨HG9.out,HF9.out⟩) (by kernel_rfl) ?_
 intro hS
 refine tk 5 82 (.agg (qae (0,0))) rfl (by kernel_rfl) iQ3 (fun Z hZ=>yF 13 hZ.2 rfl rfl) hS ?_
 refine tk 0 77 (.pointer (some ⟨M,0,none⟩)) rfl (by kernel_rfl) iQ3 (fun Z hZ => ?y0) hS ?_
 case y0=>(go_simp)
 refine tk 1 78 (.int .i64 4) rfl (by kernel_rfl) iQ3 (fun Z hZ => ?y1) hS ?_
 case y1=>(have hz:Z.cell? ⟨M,0,none⟩=some (.int .i64 4):=qaa hZ.1 0;go_simp)
 refine tkk 2 79 (.string ⟨lx.toArray⟩) (by kernel_rfl) iQ3 hS ?_
 refine tk 3 80 (.agg (thA 4 0 ⟨lx.toArray⟩ qaf qaf)) rfl (by kernel_rfl) iQ3 (fun Z hZ => ?y3) hS ?_
 case y3=>(unfold thA qaf;go_simp)
 refine tkk 4 81 (.int .i64 r) (by kernel_rfl) iQ3 hS ?_
 have hS3:=And.intro ((setRow_other _ (W.heap.size+1) M (thA 4 0 ⟨lx.toArray⟩ qaf qaf) (by omega)).trans hS.1) ((setRow_other _ (W.heap.size+1) M2 (thA 4 0 ⟨lx.toArray⟩ qaf qaf) (by omega)).trans hS.2)
 refine sTh 6 6 80 (W.heap.size+1) (thA 4 0 ⟨lx.toArray⟩ qaf qaf) (by kernel_rfl) (HX9.out.drew.th) thg (hS3) ?_
 refine tkk 7 7 (.int .i64 r) (by kernel_rfl) iQ3 hS3 ?_
 refine sF 8 8 82 (W.heap.size+2) (0,0) (by kernel_rfl) (qan HX9.out.drew bwR _) (⟨sx (by omega) hS3.1,sx (by omega) hS3.2⟩) ?_
 refine wpAnyH_done (by kernel_rfl) ?_ _
 go_simp
 go_wp2
 have hf:=qao HX9.out.drew bwR (thA 4 0 ⟨lx.toArray⟩ qaf qaf) (0,0)
 refine eoT results116 hf (.int .i64 r) rfl rfl rfl rfl ⟨hf.2.2,?_⟩
 exact⟨HQ.out,_,_,_,_,_,_,_,_,_,rfl,qbE rfl⟩
theorem qjE (k:Nat)(W:World)(bs:List UInt8)(fm d l lim:Int)(i:Nat)(dp:Int)(n:Int)(q:Nat)(o:Bool)(f:Int×Int)(cR:∀V,Calls prog 176 #[.agg (inA bs fm d l),.int .i64 q,.int .i64 n,.bool false] V fun e W'=>e=.returned (.tuple #[.string ⟨#[]⟩,.int .i64 0,.agg (qae (f))])∧Below V.heap.size V W')(h1:qaz bs l i=true)(cI:∀V,Calls prog 174 #[.agg (inA bs fm d l),.int .i64 i] V fun e W'=>e=.returned (.bool false)∧Below V.heap.size V W')(cD:∀V,Calls prog 175 #[.agg (inA bs fm d l),.int .i64 i] V fun e W'=>e=.returned (.tuple #[.agg (hdC 5 n (q:Int) o),.agg (qae (0,0))])∧Below V.heap.size V W'):Calls prog 116 #[.agg (inA bs fm d l),.int .i64 i,.int .i64 dp] W (qaK (k+1) bs lim W (.error f)):=by
 have cH1:=qap fm d h1
 have cI1:=cI
 unfold inA at cI1
 have cHd:=cD
 unfold inA at cHd
 have cR1:=cR
 unfold inA at cR1
 have HX:=qbk W bs fm d l
 clear h1 cI cD cR
 unfold inA
 go_enter func116,ntmps116
 go_wp2_with (first
  |(go_at_call 113;refine HX.out.ck (cH1 _) ?_;clear cH1;intro w2 HX2 c0 c1 c2 c3)
  |(go_at_call 174;refine HX2.out.ck (cI1 _) ?_;clear cI1 c0 c1 c2 c3;intro w3 HX3 c0 c1 c2 c3)
  |(go_at_call 175;refine ck (cHd _) HX3.out.next ?_;clear cHd c0 c1 c2 c3;intro w6 HX6)
  |(go_at_call 176;refine ckB (cR1 _) HX7.out.next ?_;clear cR1 c0 c1 c2 c3 g0 g1 g2 g3 u0;intro w8 hB8 HX8;have HG8:Hid (w8.heap[M]? = some (.cells (hdC 5 n (q:Int) o) 294)):=(hB8.block _ (ltA HG7.out)).trans HG7.out;have hM8:M<w8.heap.size:=ltA HG8.out)
  |((with_reducible refine zH 9 36 rfl rfl (w6.heap.size) 5 n (q:Int) o ?_ ?_);exact⟨rfl,rfl,(qak w6 _ _).1⟩)
  |((with_reducible refine zF 10 37 rfl rfl (w6.heap.size+1) (0,0) ?_ ?_);exact⟨rfl,rfl,sx (by omega) (qak w6 _ _).2⟩;refine nmd ?_;intro V7 EV7;have HX7:Hid (RTh W (inA bs fm d l) V7):=EV7▸HX6.out.next (qar _ _ _ _ _);have HF7:Hid (V7.heap[w6.heap.size+1]? = some (.cells (qae (0,0)) 95)):=EV7▸qci;have HG7:Hid (V7.heap[w6.heap.size]? = some (.cells (hdC 5 n (q:Int) o) 294)):=EV7▸qdf;have hM:W.heap.size+3≤w6.heap.size:=ltA HX6.out.flt;clear EV7;generalize w6.heap.size=M at *;obtain⟨c0,c1,c2,c3⟩:=qa3 HX7.out.box;obtain⟨g0,g1,g2,g3⟩:=qiV HG7.out;have u0:V7.cell? ⟨M+1,0,none⟩=some (.int .i64 (0)):=qaa HF7.out 0)
  |((with_reducible refine zF 13 76 rfl rfl (w8.heap.size) (f) ?_ ?_);exact⟨rfl,rfl,qab w8 _⟩;refine nmd ?_;intro V9 EV9;have HX9:Hid (RTh W (inA bs fm d l) V9):=EV9▸HX8.out.next (qal _ _);have HF9:Hid (V9.heap[w8.heap.size]? = some (.cells (qae (f)) 95)):=EV9▸setRow_heap _ _ _ _ _ _ (qab _ _);have HG9:Hid (V9.heap[M]? = some (.cells (hdC 5 n (q:Int) o) 294)):=EV9▸((qal w8 _).block _ hM8).trans HG8.out;clear EV9;generalize w8.heap.size=M2 at *))
 refine rgn (S:=fun Z=>Z.heap[M]? = some (.cells (hdC 5 n (q:Int) o) 294)∧Z.heap[M2]? = some (.cells (qae (f)) 95)) (⟨HG9.out,HF9.out⟩) (by kernel_rfl) ?_
 intro hS
 refine tk 5 82 (.agg (qae (f))) rfl (by kernel_rfl) iQ3 (fun Z hZ=>yF 13 hZ.2 rfl rfl) hS ?_
 refine tk 0 77 (.pointer (some ⟨M,0,none⟩)) rfl (by kernel_rfl) iQ3 (fun Z hZ => ?y0) hS ?_
 case y0=>(go_simp)
 refine tk 1 78 (.int .i64 5) rfl (by kernel_rfl) iQ3 (fun Z hZ => ?y1) hS ?_
 case y1=>(have hz:Z.cell? ⟨M,0,none⟩=some (.int .i64 5):=qaa hZ.1 0;go_simp)
 refine tkk 2 79 (.string ⟨#[]⟩) (by kernel_rfl) iQ3 hS ?_
 refine tk 3 80 (.agg (thA 5 0 ⟨#[]⟩ qaf qaf)) rfl (by kernel_rfl) iQ3 (fun Z hZ => ?y3) hS ?_
 case y3=>(unfold thA qaf;go_simp)
 refine tkk 4 81 (.int .i64 0) (by kernel_rfl) iQ3 hS ?_
 have hS3:=And.intro ((setRow_other _ (W.heap.size+1) M (thA 5 0 ⟨#[]⟩ qaf qaf) (by omega)).trans hS.1) ((setRow_other _ (W.heap.size+1) M2 (thA 5 0 ⟨#[]⟩ qaf qaf) (by omega)).trans hS.2)
 refine sTh 6 6 80 (W.heap.size+1) (thA 5 0 ⟨#[]⟩ qaf qaf) (by kernel_rfl) (HX9.out.drew.th) thg (hS3) ?_
 refine tkk 7 7 (.int .i64 0) (by kernel_rfl) iQ3 hS3 ?_
 refine sF 8 8 82 (W.heap.size+2) (f) (by kernel_rfl) (qan HX9.out.drew bwR _) (⟨sx (by omega) hS3.1,sx (by omega) hS3.2⟩) ?_
 refine wpAnyH_done (by kernel_rfl) ?_ _
 go_simp
 go_wp2
 have hf:=qao HX9.out.drew bwR (thA 5 0 ⟨#[]⟩ qaf qaf) (f)
 refine eoT results116 hf (.int .i64 0) rfl rfl rfl rfl ⟨hf.2.2,?_⟩
 exact⟨_,_,_,_,_,_,_,_,_,_,rfl⟩
theorem qlu (k:Nat)(W:World)(bs:List UInt8)(fm d l lim:Int)(i:Nat)(dp:Int)(n:Int)(q:Nat)(o:Bool)(lx:List UInt8)(r:Nat)(hq:InR bs lim r)(cR:∀V,Calls prog 176 #[.agg (inA bs fm d l),.int .i64 q,.int .i64 n,.bool false] V fun e W'=>e=.returned (.tuple #[.string ⟨lx.toArray⟩,.int .i64 r,.agg (qae (0,0))])∧Below V.heap.size V W')(h1:qaz bs l i=true)(cI:∀V,Calls prog 174 #[.agg (inA bs fm d l),.int .i64 i] V fun e W'=>e=.returned (.bool false)∧Below V.heap.size V W')(cD:∀V,Calls prog 175 #[.agg (inA bs fm d l),.int .i64 i] V fun e W'=>e=.returned (.tuple #[.agg (hdC 5 n (q:Int) o),.agg (qae (0,0))])∧Below V.heap.size V W'):Calls prog 116 #[.agg (inA bs fm d l),.int .i64 i,.int .i64 dp] W (qaK (k+1) bs lim W (.ok (.ptr (.lit (.string lx)),r))):=by
 have cH1:=qap fm d h1
 have cI1:=cI
 unfold inA at cI1
 have cHd:=cD
 unfold inA at cHd
 have cR1:=cR
 unfold inA at cR1
 have HQ:Hid (InR bs lim r):=hq
 have HX:=qbk W bs fm d l
 clear h1 cI cD cR hq
 unfold inA
 go_enter func116,ntmps116
 go_wp2_with (first
  |(go_at_call 113;refine HX.out.ck (cH1 _) ?_;clear cH1;intro w2 HX2 c0 c1 c2 c3)
  |(go_at_call 174;refine HX2.out.ck (cI1 _) ?_;clear cI1 c0 c1 c2 c3;intro w3 HX3 c0 c1 c2 c3)
  |(go_at_call 175;refine ck (cHd _) HX3.out.next ?_;clear cHd c0 c1 c2 c3;intro w6 HX6)
  |(go_at_call 176;refine ckB (cR1 _) HX7.out.next ?_;clear cR1 c0 c1 c2 c3 g0 g1 g2 g3 u0;intro w8 hB8 HX8;have HG8:Hid (w8.heap[M]? = some (.cells (hdC 5 n (q:Int) o) 294)):=(hB8.block _ (ltA HG7.out)).trans HG7.out;have hM8:M<w8.heap.size:=ltA HG8.out)
  |((with_reducible refine zH 9 36 rfl rfl (w6.heap.size) 5 n (q:Int) o ?_ ?_);exact⟨rfl,rfl,(qak w6 _ _).1⟩)
  |((with_reducible refine zF 10 37 rfl rfl (w6.heap.size+1) (0,0) ?_ ?_);exact⟨rfl,rfl,sx (by omega) (qak w6 _ _).2⟩;refine nmd ?_;intro V7 EV7;have HX7:Hid (RTh W (inA bs fm d l) V7):=EV7▸HX6.out.next (qar _ _ _ _ _);have HF7:Hid (V7.heap[w6.heap.size+1]? = some (.cells (qae (0,0)) 95)):=EV7▸qci;have HG7:Hid (V7.heap[w6.heap.size]? = some (.cells (hdC 5 n (q:Int) o) 294)):=EV7▸qdf;have hM:W.heap.size+3≤w6.heap.size:=ltA HX6.out.flt;clear EV7;generalize w6.heap.size=M at *;obtain⟨c0,c1,c2,c3⟩:=qa3 HX7.out.box;obtain⟨g0,g1,g2,g3⟩:=qiV HG7.out;have u0:V7.cell? ⟨M+1,0,none⟩=some (.int .i64 (0)):=qaa HF7.out 0)
  |((with_reducible refine zF 13 76 rfl rfl (w8.heap.size) (0,0) ?_ ?_);exact⟨rfl,rfl,qab w8 _⟩;refine nmd ?_;intro V9 EV9;have HX9:Hid (RTh W (inA bs fm d l) V9):=EV9▸HX8.out.next (qal _ _);have HF9:Hid (V9.heap[w8.heap.size]? = some (.cells (qae (0,0)) 95)):=EV9▸setRow_heap _ _ _ _ _ _ (qab _ _);have HG9:Hid (V9.heap[M]? = some (.cells (hdC 5 n (q:Int) o) 294)):=EV9▸((qal w8 _).block _ hM8).trans HG8.out;clear EV9;generalize w8.heap.size=M2 at *))
 refine rgn (S:=fun Z=>Z.heap[M]? = some (.cells (hdC 5 n (q:Int) o) 294)∧Z.heap[M2]? = some (.cells (qae (0,0)) 95)) (⟨HG9.out,HF9.out⟩) (by kernel_rfl) ?_
 intro hS
 refine tk 5 82 (.agg (qae (0,0))) rfl (by kernel_rfl) iQ3 (fun Z hZ=>yF 13 hZ.2 rfl rfl) hS ?_
 refine tk 0 77 (.pointer (some ⟨M,0,none⟩)) rfl (by kernel_rfl) iQ3 (fun Z hZ => ?y0) hS ?_
 case y0=>(go_simp)
 refine tk 1 78 (.int .i64 5) rfl (by kernel_rfl) iQ3 (fun Z hZ => ?y1) hS ?_
 case y1=>(have hz:Z.cell? ⟨M,0,none⟩=some (.int .i64 5):=qaa hZ.1 0;go_simp)
 refine tkk 2 79 (.string ⟨lx.toArray⟩) (by kernel_rfl) iQ3 hS ?_
 refine tk 3 80 (.agg (thA 5 0 ⟨lx.toArray⟩ qaf qaf)) rfl (by kernel_rfl) iQ3 (fun Z hZ => ?y3) hS ?_
 case y3=>(unfold thA qaf;go_simp)
 refine tkk 4 81 (.int .i64 r) (by kernel_rfl) iQ3 hS ?_
 have hS3:=And.intro ((setRow_other _ (W.heap.size+1) M (thA 5 0 ⟨lx.toArray⟩ qaf qaf) (by omega)).trans hS.1) ((setRow_other _ (W.heap.size+1) M2 (thA 5 0 ⟨lx.toArray⟩ qaf qaf) (by omega)).trans hS.2)
 refine sTh 6 6 80 (W.heap.size+1) (thA 5 0 ⟨lx.toArray⟩ qaf qaf) (by kernel_rfl) (HX9.out.drew.th) thg (hS3) ?_
 refine tkk 7 7 (.int .i64 r) (by kernel_rfl) iQ3 hS3 ?_
 refine sF 8 8 82 (W.heap.size+2) (0,0) (by kernel_rfl) (qan HX9.out.drew bwR _) (⟨sx (by omega) hS3.1,sx (by omega) hS3.2⟩) ?_
 refine wpAnyH_done (by kernel_rfl) ?_ _
 go_simp
 go_wp2
 have hf:=qao HX9.out.drew bwR (thA 5 0 ⟨lx.toArray⟩ qaf qaf) (0,0)
 refine eoT results116 hf (.int .i64 r) rfl rfl rfl rfl ⟨hf.2.2,?_⟩
 exact⟨HQ.out,_,_,_,_,_,_,_,_,_,rfl,qbE rfl⟩
theorem qjK (k:Nat)(W:World)(bs:List UInt8)(fm d l lim:Int)(i:Nat)(dp:Int)(n:Int)(q:Nat)(o:Bool)(r:Except (Int×Int) (DataW Unit×Nat))(cP:∀V,Calls prog 177 #[.agg (inA bs fm d l),.agg (hdC 6 n (q:Int) o),.int .i64 dp] V (qaK (k+1) bs lim V r))(h1:qaz bs l i=true)(cI:∀V,Calls prog 174 #[.agg (inA bs fm d l),.int .i64 i] V fun e W'=>e=.returned (.bool true)∧Below V.heap.size V W')(hdd:dp<d)(cD:∀V,Calls prog 175 #[.agg (inA bs fm d l),.int .i64 i] V fun e W'=>e=.returned (.tuple #[.agg (hdC 6 n (q:Int) o),.agg (qae (0,0))])∧Below V.heap.size V W'):Calls prog 116 #[.agg (inA bs fm d l),.int .i64 i,.int .i64 dp] W (qaK (k+1) bs lim W (r)):=by
 have cH1:=qap fm d h1
 have cI1:=cI
 unfold inA at cI1
 have hdf:decide (d≤dp)=false:=by simp;omega
 have cHd:=cD
 unfold inA at cHd
 have HCP:Hid (∀V,Calls prog 177 #[.agg #[.string ⟨bs.toArray⟩,.int .i64 fm,.int .i64 d,.int .i64 l],.agg (hdC 6 n (q:Int) o),.int .i64 dp] V (qaK (k+1) bs lim V r)):=cP
 have HX:=qbk W bs fm d l
 clear h1 cI cD hdd cP
 unfold inA
 go_enter func116,ntmps116
 go_wp2_with (first
  |(go_at_call 113;refine HX.out.ck (cH1 _) ?_;clear cH1;intro w2 HX2 c0 c1 c2 c3)
  |(go_at_call 174;refine HX2.out.ck (cI1 _) ?_;clear cI1 c0 c1 c2 c3;intro w3 HX3 c0 c1 c2 c3)
  |(go_at_call 175;refine ck (cHd _) HX3.out.next ?_;clear cHd c0 c1 c2 c3;intro w6 HX6)
  |((with_reducible refine zH 9 36 rfl rfl (w6.heap.size) 6 n (q:Int) o ?_ ?_);exact⟨rfl,rfl,(qak w6 _ _).1⟩)
  |((with_reducible refine zF 10 37 rfl rfl (w6.heap.size+1) (0,0) ?_ ?_);exact⟨rfl,rfl,sx (by omega) (qak w6 _ _).2⟩;refine nmd ?_;intro V7 EV7;have HX7:Hid (RTh W (inA bs fm d l) V7):=EV7▸HX6.out.next (qar _ _ _ _ _);have HF7:Hid (V7.heap[w6.heap.size+1]? = some (.cells (qae (0,0)) 95)):=EV7▸qci;have HG7:Hid (V7.heap[w6.heap.size]? = some (.cells (hdC 6 n (q:Int) o) 294)):=EV7▸qdf;have hM:W.heap.size+3≤w6.heap.size:=ltA HX6.out.flt;clear EV7;generalize w6.heap.size=M at *;obtain⟨c0,c1,c2,c3⟩:=qa3 HX7.out.box;obtain⟨g0,g1,g2,g3⟩:=qiV HG7.out;have u0:V7.cell? ⟨M+1,0,none⟩=some (.int .i64 (0)):=qaa HF7.out 0)
  |((with_reducible refine wpList_load_row rfl 294 (.tmp 9) rfl (M) ?hx 294 (hdC 6 n (q:Int) o) (0,0) _ ?hg underlying294 rfl ?hi ?_);(case hx=>exact rfl);(case hg=>exact HG7.out);(case hi=>exact qgA _ _ _ _)))
 refine(HCP.out _).mono ?_
 clear c0 c1 c2 c3 g0 g1 g2 g3 u0
 rintro e w8 ⟨hB8,he⟩
 have HX8:=qac (HX7.out.next hB8)
 have hlt2:=ltA HX7.out.flt
 cases r with
 |error f =>
  obtain⟨kk,nn,s,a1,i1,j1,b1,p1,m1,z,rfl⟩:=he
  simp only[]
  go_wp2_with (first
   |((with_reducible refine zT 6 90 rfl rfl (W.heap.size+1) (thA kk nn s (.slice a1 i1 j1) (.slice b1 p1 m1)) ?_ ?_);exact⟨rfl,rfl,HX8.out.th,thg⟩)
   |((with_reducible refine zF 8 92 rfl rfl (W.heap.size+2) (f) ?_ ?_);exact⟨rfl,rfl,qan HX8.out bwR _⟩))
  have hf:=qao HX8.out bwR (thA kk nn s (.slice a1 i1 j1) (.slice b1 p1 m1)) (f)
  refine eoT results116 hf (.int .i64 z) rfl rfl rfl rfl ⟨hf.2.2,?_⟩
  exact⟨_,_,_,_,_,_,_,_,_,_,rfl⟩
 |ok y =>
  obtain⟨dd,r⟩:=y
  obtain⟨hqi,kk,nn,s,a1,i1,j1,b1,p1,m1,rfl,hA⟩:=he
  have HQI:Hid (InR bs lim r):=hqi
  have HA:Hid (qbD (k+1) w8 (fun j=>V7.heap.size≤j∧j<w8.heap.size) (.agg (thA kk nn s (.slice a1 i1 j1) (.slice b1 p1 m1))) dd):=hA
  clear hqi hA
  simp only[]
  go_wp2_with (first
   |((with_reducible refine zT 6 90 rfl rfl (W.heap.size+1) (thA kk nn s (.slice a1 i1 j1) (.slice b1 p1 m1)) ?_ ?_);exact⟨rfl,rfl,HX8.out.th,thg⟩)
   |((with_reducible refine zF 8 92 rfl rfl (W.heap.size+2) (0,0) ?_ ?_);exact⟨rfl,rfl,qan HX8.out bwR _⟩))
  have hf:=qao HX8.out bwR (thA kk nn s (.slice a1 i1 j1) (.slice b1 p1 m1)) (0,0)
  refine eoT results116 hf (.int .i64 r) rfl rfl rfl rfl ⟨hf.2.2,?_⟩
  exact⟨HQI.out,_,_,_,_,_,_,_,_,_,rfl,qiN HA.out HX7.out.below.size hlt2⟩
theorem qj7 (k:Nat)(W:World)(bs:List UInt8)(fm d l lim:Int)(i:Nat)(dp:Int)(n:Int)(q:Nat)(o:Bool)(r:Except (Int×Int) (DataW Unit×Nat))(cP:∀V,Calls prog 177 #[.agg (inA bs fm d l),.agg (hdC 7 n (q:Int) o),.int .i64 dp] V (qaK (k+1) bs lim V r))(h1:qaz bs l i=true)(cI:∀V,Calls prog 174 #[.agg (inA bs fm d l),.int .i64 i] V fun e W'=>e=.returned (.bool true)∧Below V.heap.size V W')(hdd:dp<d)(cD:∀V,Calls prog 175 #[.agg (inA bs fm d l),.int .i64 i] V fun e W'=>e=.returned (.tuple #[.agg (hdC 7 n (q:Int) o),.agg (qae (0,0))])∧Below V.heap.size V W'):Calls prog 116 #[.agg (inA bs fm d l),.int .i64 i,.int .i64 dp] W (qaK (k+1) bs lim W (r)):=by
 have cH1:=qap fm d h1
 have cI1:=cI
 unfold inA at cI1
 have hdf:decide (d≤dp)=false:=by simp;omega
 have cHd:=cD
 unfold inA at cHd
 have HCP:Hid (∀V,Calls prog 177 #[.agg #[.string ⟨bs.toArray⟩,.int .i64 fm,.int .i64 d,.int .i64 l],.agg (hdC 7 n (q:Int) o),.int .i64 dp] V (qaK (k+1) bs lim V r)):=cP
 have HX:=qbk W bs fm d l
 clear h1 cI cD hdd cP
 unfold inA
 go_enter func116,ntmps116
 go_wp2_with (first
  |(go_at_call 113;refine HX.out.ck (cH1 _) ?_;clear cH1;intro w2 HX2 c0 c1 c2 c3)
  |(go_at_call 174;refine HX2.out.ck (cI1 _) ?_;clear cI1 c0 c1 c2 c3;intro w3 HX3 c0 c1 c2 c3)
  |(go_at_call 175;refine ck (cHd _) HX3.out.next ?_;clear cHd c0 c1 c2 c3;intro w6 HX6)
  |((with_reducible refine zH 9 36 rfl rfl (w6.heap.size) 7 n (q:Int) o ?_ ?_);exact⟨rfl,rfl,(qak w6 _ _).1⟩)
  |((with_reducible refine zF 10 37 rfl rfl (w6.heap.size+1) (0,0) ?_ ?_);exact⟨rfl,rfl,sx (by omega) (qak w6 _ _).2⟩;refine nmd ?_;intro V7 EV7;have HX7:Hid (RTh W (inA bs fm d l) V7):=EV7▸HX6.out.next (qar _ _ _ _ _);have HF7:Hid (V7.heap[w6.heap.size+1]? = some (.cells (qae (0,0)) 95)):=EV7▸qci;have HG7:Hid (V7.heap[w6.heap.size]? = some (.cells (hdC 7 n (q:Int) o) 294)):=EV7▸qdf;have hM:W.heap.size+3≤w6.heap.size:=ltA HX6.out.flt;clear EV7;generalize w6.heap.size=M at *;obtain⟨c0,c1,c2,c3⟩:=qa3 HX7.out.box;obtain⟨g0,g1,g2,g3⟩:=qiV HG7.out;have u0:V7.cell? ⟨M+1,0,none⟩=some (.int .i64 (0)):=qaa HF7.out 0)
  |((with_reducible refine wpList_load_row rfl 294 (.tmp 9) rfl (M) ?hx 294 (hdC 7 n (q:Int) o) (0,0) _ ?hg underlying294 rfl ?hi ?_);(case hx=>exact rfl);(case hg=>exact HG7.out);(case hi=>exact qgA _ _ _ _)))
 refine(HCP.out _).mono ?_
 clear c0 c1 c2 c3 g0 g1 g2 g3 u0
 rintro e w8 ⟨hB8,he⟩
 have HX8:=qac (HX7.out.next hB8)
 have hlt2:=ltA HX7.out.flt
 cases r with
 |error f =>
  obtain⟨kk,nn,s,a1,i1,j1,b1,p1,m1,z,rfl⟩:=he
  simp only[]
  go_wp2_with (first
   |((with_reducible refine zT 6 90 rfl rfl (W.heap.size+1) (thA kk nn s (.slice a1 i1 j1) (.slice b1 p1 m1)) ?_ ?_);exact⟨rfl,rfl,HX8.out.th,thg⟩)
   |((with_reducible refine zF 8 92 rfl rfl (W.heap.size+2) (f) ?_ ?_);exact⟨rfl,rfl,qan HX8.out bwR _⟩))
  have hf:=qao HX8.out bwR (thA kk nn s (.slice a1 i1 j1) (.slice b1 p1 m1)) (f)
  refine eoT results116 hf (.int .i64 z) rfl rfl rfl rfl ⟨hf.2.2,?_⟩
  exact⟨_,_,_,_,_,_,_,_,_,_,rfl⟩
 |ok y =>
  obtain⟨dd,r⟩:=y
  obtain⟨hqi,kk,nn,s,a1,i1,j1,b1,p1,m1,rfl,hA⟩:=he
  have HQI:Hid (InR bs lim r):=hqi
  have HA:Hid (qbD (k+1) w8 (fun j=>V7.heap.size≤j∧j<w8.heap.size) (.agg (thA kk nn s (.slice a1 i1 j1) (.slice b1 p1 m1))) dd):=hA
  clear hqi hA
  simp only[]
  go_wp2_with (first
   |((with_reducible refine zT 6 90 rfl rfl (W.heap.size+1) (thA kk nn s (.slice a1 i1 j1) (.slice b1 p1 m1)) ?_ ?_);exact⟨rfl,rfl,HX8.out.th,thg⟩)
   |((with_reducible refine zF 8 92 rfl rfl (W.heap.size+2) (0,0) ?_ ?_);exact⟨rfl,rfl,qan HX8.out bwR _⟩))
  have hf:=qao HX8.out bwR (thA kk nn s (.slice a1 i1 j1) (.slice b1 p1 m1)) (0,0)
  refine eoT results116 hf (.int .i64 r) rfl rfl rfl rfl ⟨hf.2.2,?_⟩
  exact⟨HQI.out,_,_,_,_,_,_,_,_,_,rfl,qiN HA.out HX7.out.below.size hlt2⟩
end
end Go.Proofs.YtllcbnfmihfaaaaGreatDoor
