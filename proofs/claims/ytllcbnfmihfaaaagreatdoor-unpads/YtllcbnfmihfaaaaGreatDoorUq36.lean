import Derived.Test.YtllcbnfmihfaaaaGreatDoorUq33
set_option maxRecDepth 100000
set_option maxHeartbeats 8000000
namespace Go.Proofs.YtllcbnfmihfaaaaGreatDoor
open Go.Proofs.Tryz
section
open Go.RowKit Go.Lib
theorem qga (W:World)(bs:List UInt8)(fm d l lim:Int)(i:Nat)(c:UInt8)(hc:bs[i]? = some c)(h1:qaz bs l i=true)(n:Nat)(hs:c.toNat / 32=n)(hn:n<6)(hm:c.toNat%32=24)(h1n:n=1)(hl:Lm bs l lim)(hi:InR bs lim (i+1))(hb:bs.length≤200000000):Calls prog 207 #[.agg (inA bs fm d l),.int .i64 i] W fun e W'=>qaY (qa0 bs lim 1 (i+1) 0) (kdT n) (fun nv => -1-nv) ((i:Int)+1+1) e∧Below W.heap.size W W':=by
 have hix:=qah bs i c hc
 have hib:=ltL hc
 have hc255:=c.toNat_lt
 have hq:(c.toNat:Int) / 32=(n:Int):=by omega
 have hr:(c.toNat:Int)%32=24:=by omega
 have t7:((n:Int)==7)=false:=by simp;omega
 have t6:((n:Int)==6)=false:=by simp;omega
 have kt:∀w:World,(w.alloc (.cells #[.int .i64 3,.int .i64 3,.int .i64 5,.int .i64 4,.int .i64 6,.int .i64 7] 3)).cell? ⟨w.heap.size,n,none⟩=some (.int .i64 (kdT n)):=fun w=>qb4 w n hn
 have hni:(n:Int)<6:=by omega
 have t1:((n:Int)==1)=true:=by simp;omega
 have cH1:=qap fm d h1
 have cG0:=fun V=>qbF V bs fm d l lim (i+1) 1 (by decide) hl hi hb
 unfold inA at cG0
 obtain⟨nv,ov,F,hbv,hBI⟩:=qbd (qa0 bs lim 1 (i+1) 0)
 rw[hbv] at cG0
 have cG:=cG0
 unfold inA at cG
 have hnv0:=hBI.1
 have hnv1:=hBI.2.1
 have HBI:Hid (qb8 (qa0 bs lim 1 (i+1) 0) nv ov F):=hBI
 have HX:=qat W bs fm d l
 have hil:=hi.1
 clear h1 hc hs hm h1n hl hi cG0 hbv hBI
 unfold inA
 go_enter func207,ntmps207
 go_wp2_with (first
  |(go_at_call 113;refine HX.out.ck (cH1 _) ?_;clear cH1;intro w2 HX2 c0 c1 c2 c3;have n1:W.heap.size<w2.heap.size:=(by have:=HX2.out.size;omega);have n2:W.heap.size<w2.heap.size+1:=(by omega))
  |(go_at_call 231;refine(cG _).mono ?_;clear cG c0 c1 c2 c3;rintro e w3 ⟨rfl,hB3⟩;have HX3:Hid (qcE W (inA bs fm d l) w3):=((HX2.out.next (bwO (.cells #[.int .i64 3,.int .i64 3,.int .i64 5,.int .i64 4,.int .i64 6,.int .i64 7] 3))).next (bwO (.cells #[.int .i64 1,.int .i64 2,.int .i64 4,.int .i64 8] 3))).next hB3)
  |((with_reducible refine zF 13 95 rfl rfl (w3.heap.size) F ?_ ?_);exact⟨rfl,rfl,qab w3 _⟩;refine nmd ?_;intro V4 EV4;have HX4:Hid (qcE W (inA bs fm d l) V4):=EV4▸HX3.out.next (qal _ _);have HF4:Hid (V4.heap[w3.heap.size]? = some (.cells (qae F) 95)):=EV4▸setRow_heap _ _ _ _ _ _ (qab _ _);have HLT:Hid (W.heap.size+3≤w3.heap.size):=HX3.out.size;clear EV4;generalize w3.heap.size=M at *))
 refine rgn (S:=fun Z=>Z.heap[M]? = some (.cells (qae F) 95)) (HF4.out) (by kernel_rfl) ?_
 intro hS
 refine tk 8 108 (.agg (qae F)) rfl (by kernel_rfl) iQ3 (fun Z hZ=>yF 13 hZ rfl rfl) hS ?_
 refine tkk 0 100 (.int .i64 (kdT n)) (by kernel_rfl) iQ3 hS ?_
 refine tkk 1 101 (.int .i64 (-1-nv)) (by kernel_rfl) iQ3 hS ?_
 refine tkk 2 102 (.int .i64 i) (by kernel_rfl) iQ3 hS ?_
 refine tk 3 103 (.int .i64 ((i:Int)+1)) rfl (by kernel_rfl) iQ3 (fun Z hZ => ?y3) hS ?_
 case y3=>(go_simp;exact qdL _ (by omega))
 refine tkk 4 104 (.int .i64 1) (by kernel_rfl) iQ3 hS ?_
 refine tk 5 105 (.int .i64 ((i:Int)+1+1)) rfl (by kernel_rfl) iQ3 (fun Z hZ => ?y5) hS ?_
 case y5=>(go_simp;exact qdL _ (by omega))
 refine tkk 6 106 (.bool ov) (by kernel_rfl) iQ3 hS ?_
 refine tk 7 107 (.agg (hdC (kdT n) (-1-nv) ((i:Int)+1+1) ov)) rfl (by kernel_rfl) iQ3 (fun Z hZ => ?y7) hS ?_
 case y7=>(unfold hdC;go_simp)
 refine sH 9 4 107 (W.heap.size+1) (kdT n) (-1-nv) ((i:Int)+1+1) ov (by kernel_rfl) (HX4.out.drew.hd) ((setRow_other _ (W.heap.size+1) M (hdC (kdT n) (-1-nv) ((i:Int)+1+1) ov) (by have:=HLT.out;omega)).trans hS) ?_
 refine sF 10 5 108 (W.heap.size+2) F (by kernel_rfl) (sx (by omega) HX4.out.drew.flt) (sx (by have:=HLT.out;omega) ((setRow_other _ (W.heap.size+1) M (hdC (kdT n) (-1-nv) ((i:Int)+1+1) ov) (by have:=HLT.out;omega)).trans hS)) ?_
 refine wpAnyH_done (by kernel_rfl) ?_ _
 go_simp
 go_wp2
 have hf:=HX4.out.drew.fin (hdC (kdT n) (-1-nv) ((i:Int)+1+1) ov) (F)
 refine eoH results207 hf rfl rfl rfl ⟨?_,hf.2.2⟩
 exact⟨nv,ov,F,rfl,HBI.out⟩
theorem qhm (W:World)(bs:List UInt8)(fm d l lim:Int)(i:Nat)(c:UInt8)(hc:bs[i]? = some c)(h1:qaz bs l i=true)(n:Nat)(hs:c.toNat / 32=n)(hn:n<6)(hm:c.toNat%32=24)(h1n:¬n=1)(hl:Lm bs l lim)(hi:InR bs lim (i+1))(hb:bs.length≤200000000):Calls prog 207 #[.agg (inA bs fm d l),.int .i64 i] W fun e W'=>qaY (qa0 bs lim 1 (i+1) 0) (kdT n) (fun nv=>nv) ((i:Int)+1+1) e∧Below W.heap.size W W':=by
 have hix:=qah bs i c hc
 have hib:=ltL hc
 have hc255:=c.toNat_lt
 have hq:(c.toNat:Int) / 32=(n:Int):=by omega
 have hr:(c.toNat:Int)%32=24:=by omega
 have t7:((n:Int)==7)=false:=by simp;omega
 have t6:((n:Int)==6)=false:=by simp;omega
 have kt:∀w:World,(w.alloc (.cells #[.int .i64 3,.int .i64 3,.int .i64 5,.int .i64 4,.int .i64 6,.int .i64 7] 3)).cell? ⟨w.heap.size,n,none⟩=some (.int .i64 (kdT n)):=fun w=>qb4 w n hn
 have hni:(n:Int)<6:=by omega
 have t1:((n:Int)==1)=false:=by simp;omega
 have cH1:=qap fm d h1
 have cG0:=fun V=>qbF V bs fm d l lim (i+1) 1 (by decide) hl hi hb
 unfold inA at cG0
 obtain⟨nv,ov,F,hbv,hBI⟩:=qbd (qa0 bs lim 1 (i+1) 0)
 rw[hbv] at cG0
 have cG:=cG0
 unfold inA at cG
 have hnv0:=hBI.1
 have hnv1:=hBI.2.1
 have HBI:Hid (qb8 (qa0 bs lim 1 (i+1) 0) nv ov F):=hBI
 have HX:=qat W bs fm d l
 have hil:=hi.1
 clear h1 hc hs hm h1n hl hi cG0 hbv hBI
 unfold inA
 go_enter func207,ntmps207
 go_wp2_with (first
  |(go_at_call 113;refine HX.out.ck (cH1 _) ?_;clear cH1;intro w2 HX2 c0 c1 c2 c3;have n1:W.heap.size<w2.heap.size:=(by have:=HX2.out.size;omega);have n2:W.heap.size<w2.heap.size+1:=(by omega))
  |(go_at_call 231;refine(cG _).mono ?_;clear cG c0 c1 c2 c3;rintro e w3 ⟨rfl,hB3⟩;have HX3:Hid (qcE W (inA bs fm d l) w3):=((HX2.out.next (bwO (.cells #[.int .i64 3,.int .i64 3,.int .i64 5,.int .i64 4,.int .i64 6,.int .i64 7] 3))).next (bwO (.cells #[.int .i64 1,.int .i64 2,.int .i64 4,.int .i64 8] 3))).next hB3)
  |((with_reducible refine zF 13 95 rfl rfl (w3.heap.size) F ?_ ?_);exact⟨rfl,rfl,qab w3 _⟩;refine nmd ?_;intro V4 EV4;have HX4:Hid (qcE W (inA bs fm d l) V4):=EV4▸HX3.out.next (qal _ _);have HF4:Hid (V4.heap[w3.heap.size]? = some (.cells (qae F) 95)):=EV4▸setRow_heap _ _ _ _ _ _ (qab _ _);have HLT:Hid (W.heap.size+3≤w3.heap.size):=HX3.out.size;clear EV4;generalize w3.heap.size=M at *))
 refine rgn (S:=fun Z=>Z.heap[M]? = some (.cells (qae F) 95)) (HF4.out) (by kernel_rfl) ?_
 intro hS
 refine tk 8 108 (.agg (qae F)) rfl (by kernel_rfl) iQ3 (fun Z hZ=>yF 13 hZ rfl rfl) hS ?_
 refine tkk 0 100 (.int .i64 (kdT n)) (by kernel_rfl) iQ3 hS ?_
 refine tkk 1 101 (.int .i64 (nv)) (by kernel_rfl) iQ3 hS ?_
 refine tkk 2 102 (.int .i64 i) (by kernel_rfl) iQ3 hS ?_
 refine tk 3 103 (.int .i64 ((i:Int)+1)) rfl (by kernel_rfl) iQ3 (fun Z hZ => ?y3) hS ?_
 case y3=>(go_simp;exact qdL _ (by omega))
 refine tkk 4 104 (.int .i64 1) (by kernel_rfl) iQ3 hS ?_
 refine tk 5 105 (.int .i64 ((i:Int)+1+1)) rfl (by kernel_rfl) iQ3 (fun Z hZ => ?y5) hS ?_
 case y5=>(go_simp;exact qdL _ (by omega))
 refine tkk 6 106 (.bool ov) (by kernel_rfl) iQ3 hS ?_
 refine tk 7 107 (.agg (hdC (kdT n) (nv) ((i:Int)+1+1) ov)) rfl (by kernel_rfl) iQ3 (fun Z hZ => ?y7) hS ?_
 case y7=>(unfold hdC;go_simp)
 refine sH 9 4 107 (W.heap.size+1) (kdT n) (nv) ((i:Int)+1+1) ov (by kernel_rfl) (HX4.out.drew.hd) ((setRow_other _ (W.heap.size+1) M (hdC (kdT n) (nv) ((i:Int)+1+1) ov) (by have:=HLT.out;omega)).trans hS) ?_
 refine sF 10 5 108 (W.heap.size+2) F (by kernel_rfl) (sx (by omega) HX4.out.drew.flt) (sx (by have:=HLT.out;omega) ((setRow_other _ (W.heap.size+1) M (hdC (kdT n) (nv) ((i:Int)+1+1) ov) (by have:=HLT.out;omega)).trans hS)) ?_
 refine wpAnyH_done (by kernel_rfl) ?_ _
 go_simp
 go_wp2
 have hf:=HX4.out.drew.fin (hdC (kdT n) (nv) ((i:Int)+1+1) ov) (F)
 refine eoH results207 hf rfl rfl rfl ⟨?_,hf.2.2⟩
 exact⟨nv,ov,F,rfl,HBI.out⟩
theorem qgL (W:World)(bs:List UInt8)(fm d l lim:Int)(i:Nat)(c:UInt8)(hc:bs[i]? = some c)(h1:qaz bs l i=true)(n:Nat)(hs:c.toNat / 32=n)(hn:n<6)(hm:c.toNat%32=25)(h1n:n=1)(hl:Lm bs l lim)(hi:InR bs lim (i+1))(hb:bs.length≤200000000):Calls prog 207 #[.agg (inA bs fm d l),.int .i64 i] W fun e W'=>qaY (qa0 bs lim 2 (i+1) 0) (kdT n) (fun nv => -1-nv) ((i:Int)+1+2) e∧Below W.heap.size W W':=by
 have hix:=qah bs i c hc
 have hib:=ltL hc
 have hc255:=c.toNat_lt
 have hq:(c.toNat:Int) / 32=(n:Int):=by omega
 have hr:(c.toNat:Int)%32=25:=by omega
 have t7:((n:Int)==7)=false:=by simp;omega
 have t6:((n:Int)==6)=false:=by simp;omega
 have kt:∀w:World,(w.alloc (.cells #[.int .i64 3,.int .i64 3,.int .i64 5,.int .i64 4,.int .i64 6,.int .i64 7] 3)).cell? ⟨w.heap.size,n,none⟩=some (.int .i64 (kdT n)):=fun w=>qb4 w n hn
 have hni:(n:Int)<6:=by omega
 have t1:((n:Int)==1)=true:=by simp;omega
 have cH1:=qap fm d h1
 have cG0:=fun V=>qbF V bs fm d l lim (i+1) 2 (by decide) hl hi hb
 unfold inA at cG0
 obtain⟨nv,ov,F,hbv,hBI⟩:=qbd (qa0 bs lim 2 (i+1) 0)
 rw[hbv] at cG0
 have cG:=cG0
 unfold inA at cG
 have hnv0:=hBI.1
 have hnv1:=hBI.2.1
 have HBI:Hid (qb8 (qa0 bs lim 2 (i+1) 0) nv ov F):=hBI
 have HX:=qat W bs fm d l
 have hil:=hi.1
 clear h1 hc hs hm h1n hl hi cG0 hbv hBI
 unfold inA
 go_enter func207,ntmps207
 go_wp2_with (first
  |(go_at_call 113;refine HX.out.ck (cH1 _) ?_;clear cH1;intro w2 HX2 c0 c1 c2 c3;have n1:W.heap.size<w2.heap.size:=(by have:=HX2.out.size;omega);have n2:W.heap.size<w2.heap.size+1:=(by omega))
  |(go_at_call 231;refine(cG _).mono ?_;clear cG c0 c1 c2 c3;rintro e w3 ⟨rfl,hB3⟩;have HX3:Hid (qcE W (inA bs fm d l) w3):=((HX2.out.next (bwO (.cells #[.int .i64 3,.int .i64 3,.int .i64 5,.int .i64 4,.int .i64 6,.int .i64 7] 3))).next (bwO (.cells #[.int .i64 1,.int .i64 2,.int .i64 4,.int .i64 8] 3))).next hB3)
  |((with_reducible refine zF 13 95 rfl rfl (w3.heap.size) F ?_ ?_);exact⟨rfl,rfl,qab w3 _⟩;refine nmd ?_;intro V4 EV4;have HX4:Hid (qcE W (inA bs fm d l) V4):=EV4▸HX3.out.next (qal _ _);have HF4:Hid (V4.heap[w3.heap.size]? = some (.cells (qae F) 95)):=EV4▸setRow_heap _ _ _ _ _ _ (qab _ _);have HLT:Hid (W.heap.size+3≤w3.heap.size):=HX3.out.size;clear EV4;generalize w3.heap.size=M at *))
 refine rgn (S:=fun Z=>Z.heap[M]? = some (.cells (qae F) 95)) (HF4.out) (by kernel_rfl) ?_
 intro hS
 refine tk 8 108 (.agg (qae F)) rfl (by kernel_rfl) iQ3 (fun Z hZ=>yF 13 hZ rfl rfl) hS ?_
 refine tkk 0 100 (.int .i64 (kdT n)) (by kernel_rfl) iQ3 hS ?_
 refine tkk 1 101 (.int .i64 (-1-nv)) (by kernel_rfl) iQ3 hS ?_
 refine tkk 2 102 (.int .i64 i) (by kernel_rfl) iQ3 hS ?_
 refine tk 3 103 (.int .i64 ((i:Int)+1)) rfl (by kernel_rfl) iQ3 (fun Z hZ => ?y3) hS ?_
 case y3=>(go_simp;exact qdL _ (by omega))
 refine tkk 4 104 (.int .i64 2) (by kernel_rfl) iQ3 hS ?_
 refine tk 5 105 (.int .i64 ((i:Int)+1+2)) rfl (by kernel_rfl) iQ3 (fun Z hZ => ?y5) hS ?_
 case y5=>(go_simp;exact qdL _ (by omega))
 refine tkk 6 106 (.bool ov) (by kernel_rfl) iQ3 hS ?_
 refine tk 7 107 (.agg (hdC (kdT n) (-1-nv) ((i:Int)+1+2) ov)) rfl (by kernel_rfl) iQ3 (fun Z hZ => ?y7) hS ?_
 case y7=>(unfold hdC;go_simp)
 refine sH 9 4 107 (W.heap.size+1) (kdT n) (-1-nv) ((i:Int)+1+2) ov (by kernel_rfl) (HX4.out.drew.hd) ((setRow_other _ (W.heap.size+1) M (hdC (kdT n) (-1-nv) ((i:Int)+1+2) ov) (by have:=HLT.out;omega)).trans hS) ?_
 refine sF 10 5 108 (W.heap.size+2) F (by kernel_rfl) (sx (by omega) HX4.out.drew.flt) (sx (by have:=HLT.out;omega) ((setRow_other _ (W.heap.size+1) M (hdC (kdT n) (-1-nv) ((i:Int)+1+2) ov) (by have:=HLT.out;omega)).trans hS)) ?_
 refine wpAnyH_done (by kernel_rfl) ?_ _
 go_simp
 go_wp2
 have hf:=HX4.out.drew.fin (hdC (kdT n) (-1-nv) ((i:Int)+1+2) ov) (F)
 refine eoH results207 hf rfl rfl rfl ⟨?_,hf.2.2⟩
 exact⟨nv,ov,F,rfl,HBI.out⟩
theorem qhl (W:World)(bs:List UInt8)(fm d l lim:Int)(i:Nat)(c:UInt8)(hc:bs[i]? = some c)(h1:qaz bs l i=true)(n:Nat)(hs:c.toNat / 32=n)(hn:n<6)(hm:c.toNat%32=25)(h1n:¬n=1)(hl:Lm bs l lim)(hi:InR bs lim (i+1))(hb:bs.length≤200000000):Calls prog 207 #[.agg (inA bs fm d l),.int .i64 i] W fun e W'=>qaY (qa0 bs lim 2 (i+1) 0) (kdT n) (fun nv=>nv) ((i:Int)+1+2) e∧Below W.heap.size W W':=by
 have hix:=qah bs i c hc
 have hib:=ltL hc
 have hc255:=c.toNat_lt
 have hq:(c.toNat:Int) / 32=(n:Int):=by omega
 have hr:(c.toNat:Int)%32=25:=by omega
 have t7:((n:Int)==7)=false:=by simp;omega
 have t6:((n:Int)==6)=false:=by simp;omega
 have kt:∀w:World,(w.alloc (.cells #[.int .i64 3,.int .i64 3,.int .i64 5,.int .i64 4,.int .i64 6,.int .i64 7] 3)).cell? ⟨w.heap.size,n,none⟩=some (.int .i64 (kdT n)):=fun w=>qb4 w n hn
 have hni:(n:Int)<6:=by omega
 have t1:((n:Int)==1)=false:=by simp;omega
 have cH1:=qap fm d h1
 have cG0:=fun V=>qbF V bs fm d l lim (i+1) 2 (by decide) hl hi hb
 unfold inA at cG0
 obtain⟨nv,ov,F,hbv,hBI⟩:=qbd (qa0 bs lim 2 (i+1) 0)
 rw[hbv] at cG0
 have cG:=cG0
 unfold inA at cG
 have hnv0:=hBI.1
 have hnv1:=hBI.2.1
 have HBI:Hid (qb8 (qa0 bs lim 2 (i+1) 0) nv ov F):=hBI
 have HX:=qat W bs fm d l
 have hil:=hi.1
 clear h1 hc hs hm h1n hl hi cG0 hbv hBI
 unfold inA
 go_enter func207,ntmps207
 go_wp2_with (first
  |(go_at_call 113;refine HX.out.ck (cH1 _) ?_;clear cH1;intro w2 HX2 c0 c1 c2 c3;have n1:W.heap.size<w2.heap.size:=(by have:=HX2.out.size;omega);have n2:W.heap.size<w2.heap.size+1:=(by omega))
  |(go_at_call 231;refine(cG _).mono ?_;clear cG c0 c1 c2 c3;rintro e w3 ⟨rfl,hB3⟩;have HX3:Hid (qcE W (inA bs fm d l) w3):=((HX2.out.next (bwO (.cells #[.int .i64 3,.int .i64 3,.int .i64 5,.int .i64 4,.int .i64 6,.int .i64 7] 3))).next (bwO (.cells #[.int .i64 1,.int .i64 2,.int .i64 4,.int .i64 8] 3))).next hB3)
  |((with_reducible refine zF 13 95 rfl rfl (w3.heap.size) F ?_ ?_);exact⟨rfl,rfl,qab w3 _⟩;refine nmd ?_;intro V4 EV4;have HX4:Hid (qcE W (inA bs fm d l) V4):=EV4▸HX3.out.next (qal _ _);have HF4:Hid (V4.heap[w3.heap.size]? = some (.cells (qae F) 95)):=EV4▸setRow_heap _ _ _ _ _ _ (qab _ _);have HLT:Hid (W.heap.size+3≤w3.heap.size):=HX3.out.size;clear EV4;generalize w3.heap.size=M at *))
 refine rgn (S:=fun Z=>Z.heap[M]? = some (.cells (qae F) 95)) (HF4.out) (by kernel_rfl) ?_
 intro hS
 refine tk 8 108 (.agg (qae F)) rfl (by kernel_rfl) iQ3 (fun Z hZ=>yF 13 hZ rfl rfl) hS ?_
 refine tkk 0 100 (.int .i64 (kdT n)) (by kernel_rfl) iQ3 hS ?_
 refine tkk 1 101 (.int .i64 (nv)) (by kernel_rfl) iQ3 hS ?_
 refine tkk 2 102 (.int .i64 i) (by kernel_rfl) iQ3 hS ?_
 refine tk 3 103 (.int .i64 ((i:Int)+1)) rfl (by kernel_rfl) iQ3 (fun Z hZ => ?y3) hS ?_
 case y3=>(go_simp;exact qdL _ (by omega))
 refine tkk 4 104 (.int .i64 2) (by kernel_rfl) iQ3 hS ?_
 refine tk 5 105 (.int .i64 ((i:Int)+1+2)) rfl (by kernel_rfl) iQ3 (fun Z hZ => ?y5) hS ?_
 case y5=>(go_simp;exact qdL _ (by omega))
 refine tkk 6 106 (.bool ov) (by kernel_rfl) iQ3 hS ?_
 refine tk 7 107 (.agg (hdC (kdT n) (nv) ((i:Int)+1+2) ov)) rfl (by kernel_rfl) iQ3 (fun Z hZ => ?y7) hS ?_
 case y7=>(unfold hdC;go_simp)
 refine sH 9 4 107 (W.heap.size+1) (kdT n) (nv) ((i:Int)+1+2) ov (by kernel_rfl) (HX4.out.drew.hd) ((setRow_other _ (W.heap.size+1) M (hdC (kdT n) (nv) ((i:Int)+1+2) ov) (by have:=HLT.out;omega)).trans hS) ?_
 refine sF 10 5 108 (W.heap.size+2) F (by kernel_rfl) (sx (by omega) HX4.out.drew.flt) (sx (by have:=HLT.out;omega) ((setRow_other _ (W.heap.size+1) M (hdC (kdT n) (nv) ((i:Int)+1+2) ov) (by have:=HLT.out;omega)).trans hS)) ?_
 refine wpAnyH_done (by kernel_rfl) ?_ _
 go_simp
 go_wp2
 have hf:=HX4.out.drew.fin (hdC (kdT n) (nv) ((i:Int)+1+2) ov) (F)
 refine eoH results207 hf rfl rfl rfl ⟨?_,hf.2.2⟩
 exact⟨nv,ov,F,rfl,HBI.out⟩
theorem qgN (W:World)(bs:List UInt8)(fm d l lim:Int)(i:Nat)(c:UInt8)(hc:bs[i]? = some c)(h1:qaz bs l i=true)(n:Nat)(hs:c.toNat / 32=n)(hn:n<6)(hm:c.toNat%32=26)(h1n:n=1)(hl:Lm bs l lim)(hi:InR bs lim (i+1))(hb:bs.length≤200000000):Calls prog 207 #[.agg (inA bs fm d l),.int .i64 i] W fun e W'=>qaY (qa0 bs lim 4 (i+1) 0) (kdT n) (fun nv => -1-nv) ((i:Int)+1+4) e∧Below W.heap.size W W':=by
 have hix:=qah bs i c hc
 have hib:=ltL hc
 have hc255:=c.toNat_lt
 have hq:(c.toNat:Int) / 32=(n:Int):=by omega
 have hr:(c.toNat:Int)%32=26:=by omega
 have t7:((n:Int)==7)=false:=by simp;omega
 have t6:((n:Int)==6)=false:=by simp;omega
 have kt:∀w:World,(w.alloc (.cells #[.int .i64 3,.int .i64 3,.int .i64 5,.int .i64 4,.int .i64 6,.int .i64 7] 3)).cell? ⟨w.heap.size,n,none⟩=some (.int .i64 (kdT n)):=fun w=>qb4 w n hn
 have hni:(n:Int)<6:=by omega
 have t1:((n:Int)==1)=true:=by simp;omega
 have cH1:=qap fm d h1
 have cG0:=fun V=>qbF V bs fm d l lim (i+1) 4 (by decide) hl hi hb
 unfold inA at cG0
 obtain⟨nv,ov,F,hbv,hBI⟩:=qbd (qa0 bs lim 4 (i+1) 0)
 rw[hbv] at cG0
 have cG:=cG0
 unfold inA at cG
 have hnv0:=hBI.1
 have hnv1:=hBI.2.1
 have HBI:Hid (qb8 (qa0 bs lim 4 (i+1) 0) nv ov F):=hBI
 have HX:=qat W bs fm d l
 have hil:=hi.1
 clear h1 hc hs hm h1n hl hi cG0 hbv hBI
 unfold inA
 go_enter func207,ntmps207
 go_wp2_with (first
  |(go_at_call 113;refine HX.out.ck (cH1 _) ?_;clear cH1;intro w2 HX2 c0 c1 c2 c3;have n1:W.heap.size<w2.heap.size:=(by have:=HX2.out.size;omega);have n2:W.heap.size<w2.heap.size+1:=(by omega))
  |(go_at_call 231;refine(cG _).mono ?_;clear cG c0 c1 c2 c3;rintro e w3 ⟨rfl,hB3⟩;have HX3:Hid (qcE W (inA bs fm d l) w3):=((HX2.out.next (bwO (.cells #[.int .i64 3,.int .i64 3,.int .i64 5,.int .i64 4,.int .i64 6,.int .i64 7] 3))).next (bwO (.cells #[.int .i64 1,.int .i64 2,.int .i64 4,.int .i64 8] 3))).next hB3)
  |((with_reducible refine zF 13 95 rfl rfl (w3.heap.size) F ?_ ?_);exact⟨rfl,rfl,qab w3 _⟩;refine nmd ?_;intro V4 EV4;have HX4:Hid (qcE W (inA bs fm d l) V4):=EV4▸HX3.out.next (qal _ _);have HF4:Hid (V4.heap[w3.heap.size]? = some (.cells (qae F) 95)):=EV4▸setRow_heap _ _ _ _ _ _ (qab _ _);have HLT:Hid (W.heap.size+3≤w3.heap.size):=HX3.out.size;clear EV4;generalize w3.heap.size=M at *))
 refine rgn (S:=fun Z=>Z.heap[M]? = some (.cells (qae F) 95)) (HF4.out) (by kernel_rfl) ?_
 intro hS
 refine tk 8 108 (.agg (qae F)) rfl (by kernel_rfl) iQ3 (fun Z hZ=>yF 13 hZ rfl rfl) hS ?_
 refine tkk 0 100 (.int .i64 (kdT n)) (by kernel_rfl) iQ3 hS ?_
 refine tkk 1 101 (.int .i64 (-1-nv)) (by kernel_rfl) iQ3 hS ?_
 refine tkk 2 102 (.int .i64 i) (by kernel_rfl) iQ3 hS ?_
 refine tk 3 103 (.int .i64 ((i:Int)+1)) rfl (by kernel_rfl) iQ3 (fun Z hZ => ?y3) hS ?_
 case y3=>(go_simp;exact qdL _ (by omega))
 refine tkk 4 104 (.int .i64 4) (by kernel_rfl) iQ3 hS ?_
 refine tk 5 105 (.int .i64 ((i:Int)+1+4)) rfl (by kernel_rfl) iQ3 (fun Z hZ => ?y5) hS ?_
 case y5=>(go_simp;exact qdL _ (by omega))
 refine tkk 6 106 (.bool ov) (by kernel_rfl) iQ3 hS ?_
 refine tk 7 107 (.agg (hdC (kdT n) (-1-nv) ((i:Int)+1+4) ov)) rfl (by kernel_rfl) iQ3 (fun Z hZ => ?y7) hS ?_
 case y7=>(unfold hdC;go_simp)
 refine sH 9 4 107 (W.heap.size+1) (kdT n) (-1-nv) ((i:Int)+1+4) ov (by kernel_rfl) (HX4.out.drew.hd) ((setRow_other _ (W.heap.size+1) M (hdC (kdT n) (-1-nv) ((i:Int)+1+4) ov) (by have:=HLT.out;omega)).trans hS) ?_
 refine sF 10 5 108 (W.heap.size+2) F (by kernel_rfl) (sx (by omega) HX4.out.drew.flt) (sx (by have:=HLT.out;omega) ((setRow_other _ (W.heap.size+1) M (hdC (kdT n) (-1-nv) ((i:Int)+1+4) ov) (by have:=HLT.out;omega)).trans hS)) ?_
 refine wpAnyH_done (by kernel_rfl) ?_ _
 go_simp
 go_wp2
 have hf:=HX4.out.drew.fin (hdC (kdT n) (-1-nv) ((i:Int)+1+4) ov) (F)
 refine eoH results207 hf rfl rfl rfl ⟨?_,hf.2.2⟩
 exact⟨nv,ov,F,rfl,HBI.out⟩
theorem qgW (W:World)(bs:List UInt8)(fm d l lim:Int)(i:Nat)(c:UInt8)(hc:bs[i]? = some c)(h1:qaz bs l i=true)(n:Nat)(hs:c.toNat / 32=n)(hn:n<6)(hm:c.toNat%32=26)(h1n:¬n=1)(hl:Lm bs l lim)(hi:InR bs lim (i+1))(hb:bs.length≤200000000):Calls prog 207 #[.agg (inA bs fm d l),.int .i64 i] W fun e W'=>qaY (qa0 bs lim 4 (i+1) 0) (kdT n) (fun nv=>nv) ((i:Int)+1+4) e∧Below W.heap.size W W':=by
 have hix:=qah bs i c hc
 have hib:=ltL hc
 have hc255:=c.toNat_lt
 have hq:(c.toNat:Int) / 32=(n:Int):=by omega
 have hr:(c.toNat:Int)%32=26:=by omega
 have t7:((n:Int)==7)=false:=by simp;omega
 have t6:((n:Int)==6)=false:=by simp;omega
 have kt:∀w:World,(w.alloc (.cells #[.int .i64 3,.int .i64 3,.int .i64 5,.int .i64 4,.int .i64 6,.int .i64 7] 3)).cell? ⟨w.heap.size,n,none⟩=some (.int .i64 (kdT n)):=fun w=>qb4 w n hn
 have hni:(n:Int)<6:=by omega
 have t1:((n:Int)==1)=false:=by simp;omega
 have cH1:=qap fm d h1
 have cG0:=fun V=>qbF V bs fm d l lim (i+1) 4 (by decide) hl hi hb
 unfold inA at cG0
 obtain⟨nv,ov,F,hbv,hBI⟩:=qbd (qa0 bs lim 4 (i+1) 0)
 rw[hbv] at cG0
 have cG:=cG0
 unfold inA at cG
 have hnv0:=hBI.1
 have hnv1:=hBI.2.1
 have HBI:Hid (qb8 (qa0 bs lim 4 (i+1) 0) nv ov F):=hBI
 have HX:=qat W bs fm d l
 have hil:=hi.1
 clear h1 hc hs hm h1n hl hi cG0 hbv hBI
 unfold inA
 go_enter func207,ntmps207
 go_wp2_with (first
  |(go_at_call 113;refine HX.out.ck (cH1 _) ?_;clear cH1;intro w2 HX2 c0 c1 c2 c3;have n1:W.heap.size<w2.heap.size:=(by have:=HX2.out.size;omega);have n2:W.heap.size<w2.heap.size+1:=(by omega))
  |(go_at_call 231;refine(cG _).mono ?_;clear cG c0 c1 c2 c3;rintro e w3 ⟨rfl,hB3⟩;have HX3:Hid (qcE W (inA bs fm d l) w3):=((HX2.out.next (bwO (.cells #[.int .i64 3,.int .i64 3,.int .i64 5,.int .i64 4,.int .i64 6,.int .i64 7] 3))).next (bwO (.cells #[.int .i64 1,.int .i64 2,.int .i64 4,.int .i64 8] 3))).next hB3)
  |((with_reducible refine zF 13 95 rfl rfl (w3.heap.size) F ?_ ?_);exact⟨rfl,rfl,qab w3 _⟩;refine nmd ?_;intro V4 EV4;have HX4:Hid (qcE W (inA bs fm d l) V4):=EV4▸HX3.out.next (qal _ _);have HF4:Hid (V4.heap[w3.heap.size]? = some (.cells (qae F) 95)):=EV4▸setRow_heap _ _ _ _ _ _ (qab _ _);have HLT:Hid (W.heap.size+3≤w3.heap.size):=HX3.out.size;clear EV4;generalize w3.heap.size=M at *))
 refine rgn (S:=fun Z=>Z.heap[M]? = some (.cells (qae F) 95)) (HF4.out) (by kernel_rfl) ?_
 intro hS
 refine tk 8 108 (.agg (qae F)) rfl (by kernel_rfl) iQ3 (fun Z hZ=>yF 13 hZ rfl rfl) hS ?_
 refine tkk 0 100 (.int .i64 (kdT n)) (by kernel_rfl) iQ3 hS ?_
 refine tkk 1 101 (.int .i64 (nv)) (by kernel_rfl) iQ3 hS ?_
 refine tkk 2 102 (.int .i64 i) (by kernel_rfl) iQ3 hS ?_
 refine tk 3 103 (.int .i64 ((i:Int)+1)) rfl (by kernel_rfl) iQ3 (fun Z hZ => ?y3) hS ?_
 case y3=>(go_simp;exact qdL _ (by omega))
 refine tkk 4 104 (.int .i64 4) (by kernel_rfl) iQ3 hS ?_
 refine tk 5 105 (.int .i64 ((i:Int)+1+4)) rfl (by kernel_rfl) iQ3 (fun Z hZ => ?y5) hS ?_
 case y5=>(go_simp;exact qdL _ (by omega))
 refine tkk 6 106 (.bool ov) (by kernel_rfl) iQ3 hS ?_
 refine tk 7 107 (.agg (hdC (kdT n) (nv) ((i:Int)+1+4) ov)) rfl (by kernel_rfl) iQ3 (fun Z hZ => ?y7) hS ?_
 case y7=>(unfold hdC;go_simp)
 refine sH 9 4 107 (W.heap.size+1) (kdT n) (nv) ((i:Int)+1+4) ov (by kernel_rfl) (HX4.out.drew.hd) ((setRow_other _ (W.heap.size+1) M (hdC (kdT n) (nv) ((i:Int)+1+4) ov) (by have:=HLT.out;omega)).trans hS) ?_
 refine sF 10 5 108 (W.heap.size+2) F (by kernel_rfl) (sx (by omega) HX4.out.drew.flt) (sx (by have:=HLT.out;omega) ((setRow_other _ (W.heap.size+1) M (hdC (kdT n) (nv) ((i:Int)+1+4) ov) (by have:=HLT.out;omega)).trans hS)) ?_
 refine wpAnyH_done (by kernel_rfl) ?_ _
 go_simp
 go_wp2
 have hf:=HX4.out.drew.fin (hdC (kdT n) (nv) ((i:Int)+1+4) ov) (F)
 refine eoH results207 hf rfl rfl rfl ⟨?_,hf.2.2⟩
 exact⟨nv,ov,F,rfl,HBI.out⟩
theorem qge (W:World)(bs:List UInt8)(fm d l lim:Int)(i:Nat)(c:UInt8)(hc:bs[i]? = some c)(h1:qaz bs l i=true)(n:Nat)(hs:c.toNat / 32=n)(hn:n<6)(hm:c.toNat%32=27)(h1n:n=1)(hl:Lm bs l lim)(hi:InR bs lim (i+1))(hb:bs.length≤200000000):Calls prog 207 #[.agg (inA bs fm d l),.int .i64 i] W fun e W'=>qaY (qa0 bs lim 8 (i+1) 0) (kdT n) (fun nv => -1-nv) ((i:Int)+1+8) e∧Below W.heap.size W W':=by
 have hix:=qah bs i c hc
 have hib:=ltL hc
 have hc255:=c.toNat_lt
 have hq:(c.toNat:Int) / 32=(n:Int):=by omega
 have hr:(c.toNat:Int)%32=27:=by omega
 have t7:((n:Int)==7)=false:=by simp;omega
 have t6:((n:Int)==6)=false:=by simp;omega
 have kt:∀w:World,(w.alloc (.cells #[.int .i64 3,.int .i64 3,.int .i64 5,.int .i64 4,.int .i64 6,.int .i64 7] 3)).cell? ⟨w.heap.size,n,none⟩=some (.int .i64 (kdT n)):=fun w=>qb4 w n hn
 have hni:(n:Int)<6:=by omega
 have t1:((n:Int)==1)=true:=by simp;omega
 have cH1:=qap fm d h1
 have cG0:=fun V=>qbF V bs fm d l lim (i+1) 8 (by decide) hl hi hb
 unfold inA at cG0
 obtain⟨nv,ov,F,hbv,hBI⟩:=qbd (qa0 bs lim 8 (i+1) 0)
 rw[hbv] at cG0
 have cG:=cG0
 unfold inA at cG
 have hnv0:=hBI.1
 have hnv1:=hBI.2.1
 have HBI:Hid (qb8 (qa0 bs lim 8 (i+1) 0) nv ov F):=hBI
 have HX:=qat W bs fm d l
 have hil:=hi.1
 clear h1 hc hs hm h1n hl hi cG0 hbv hBI
 unfold inA
 go_enter func207,ntmps207
 go_wp2_with (first
  |(go_at_call 113;refine HX.out.ck (cH1 _) ?_;clear cH1;intro w2 HX2 c0 c1 c2 c3;have n1:W.heap.size<w2.heap.size:=(by have:=HX2.out.size;omega);have n2:W.heap.size<w2.heap.size+1:=(by omega))
  |(go_at_call 231;refine(cG _).mono ?_;clear cG c0 c1 c2 c3;rintro e w3 ⟨rfl,hB3⟩;have HX3:Hid (qcE W (inA bs fm d l) w3):=((HX2.out.next (bwO (.cells #[.int .i64 3,.int .i64 3,.int .i64 5,.int .i64 4,.int .i64 6,.int .i64 7] 3))).next (bwO (.cells #[.int .i64 1,.int .i64 2,.int .i64 4,.int .i64 8] 3))).next hB3)
  |((with_reducible refine zF 13 95 rfl rfl (w3.heap.size) F ?_ ?_);exact⟨rfl,rfl,qab w3 _⟩;refine nmd ?_;intro V4 EV4;have HX4:Hid (qcE W (inA bs fm d l) V4):=EV4▸HX3.out.next (qal _ _);have HF4:Hid (V4.heap[w3.heap.size]? = some (.cells (qae F) 95)):=EV4▸setRow_heap _ _ _ _ _ _ (qab _ _);have HLT:Hid (W.heap.size+3≤w3.heap.size):=HX3.out.size;clear EV4;generalize w3.heap.size=M at *))
 refine rgn (S:=fun Z=>Z.heap[M]? = some (.cells (qae F) 95)) (HF4.out) (by kernel_rfl) ?_
 intro hS
 refine tk 8 108 (.agg (qae F)) rfl (by kernel_rfl) iQ3 (fun Z hZ=>yF 13 hZ rfl rfl) hS ?_
 refine tkk 0 100 (.int .i64 (kdT n)) (by kernel_rfl) iQ3 hS ?_
 refine tkk 1 101 (.int .i64 (-1-nv)) (by kernel_rfl) iQ3 hS ?_
 refine tkk 2 102 (.int .i64 i) (by kernel_rfl) iQ3 hS ?_
 refine tk 3 103 (.int .i64 ((i:Int)+1)) rfl (by kernel_rfl) iQ3 (fun Z hZ => ?y3) hS ?_
 case y3=>(go_simp;exact qdL _ (by omega))
 refine tkk 4 104 (.int .i64 8) (by kernel_rfl) iQ3 hS ?_
 refine tk 5 105 (.int .i64 ((i:Int)+1+8)) rfl (by kernel_rfl) iQ3 (fun Z hZ => ?y5) hS ?_
 case y5=>(go_simp;exact qdL _ (by omega))
 refine tkk 6 106 (.bool ov) (by kernel_rfl) iQ3 hS ?_
 refine tk 7 107 (.agg (hdC (kdT n) (-1-nv) ((i:Int)+1+8) ov)) rfl (by kernel_rfl) iQ3 (fun Z hZ => ?y7) hS ?_
 case y7=>(unfold hdC;go_simp)
 refine sH 9 4 107 (W.heap.size+1) (kdT n) (-1-nv) ((i:Int)+1+8) ov (by kernel_rfl) (HX4.out.drew.hd) ((setRow_other _ (W.heap.size+1) M (hdC (kdT n) (-1-nv) ((i:Int)+1+8) ov) (by have:=HLT.out;omega)).trans hS) ?_
 refine sF 10 5 108 (W.heap.size+2) F (by kernel_rfl) (sx (by omega) HX4.out.drew.flt) (sx (by have:=HLT.out;omega) ((setRow_other _ (W.heap.size+1) M (hdC (kdT n) (-1-nv) ((i:Int)+1+8) ov) (by have:=HLT.out;omega)).trans hS)) ?_
 refine wpAnyH_done (by kernel_rfl) ?_ _
 go_simp
 go_wp2
 have hf:=HX4.out.drew.fin (hdC (kdT n) (-1-nv) ((i:Int)+1+8) ov) (F)
 refine eoH results207 hf rfl rfl rfl ⟨?_,hf.2.2⟩
 exact⟨nv,ov,F,rfl,HBI.out⟩
theorem qgm (W:World)(bs:List UInt8)(fm d l lim:Int)(i:Nat)(c:UInt8)(hc:bs[i]? = some c)(h1:qaz bs l i=true)(n:Nat)(hs:c.toNat / 32=n)(hn:n<6)(hm:c.toNat%32=27)(h1n:¬n=1)(hl:Lm bs l lim)(hi:InR bs lim (i+1))(hb:bs.length≤200000000):Calls prog 207 #[.agg (inA bs fm d l),.int .i64 i] W fun e W'=>qaY (qa0 bs lim 8 (i+1) 0) (kdT n) (fun nv=>nv) ((i:Int)+1+8) e∧Below W.heap.size W W':=by
 have hix:=qah bs i c hc
 have hib:=ltL hc
 have hc255:=c.toNat_lt
 have hq:(c.toNat:Int) / 32=(n:Int):=by omega
 have hr:(c.toNat:Int)%32=27:=by omega
 have t7:((n:Int)==7)=false:=by simp;omega
 have t6:((n:Int)==6)=false:=by simp;omega
 have kt:∀w:World,(w.alloc (.cells #[.int .i64 3,.int .i64 3,.int .i64 5,.int .i64 4,.int .i64 6,.int .i64 7] 3)).cell? ⟨w.heap.size,n,none⟩=some (.int .i64 (kdT n)):=fun w=>qb4 w n hn
 have hni:(n:Int)<6:=by omega
 have t1:((n:Int)==1)=false:=by simp;omega
 have cH1:=qap fm d h1
 have cG0:=fun V=>qbF V bs fm d l lim (i+1) 8 (by decide) hl hi hb
 unfold inA at cG0
 obtain⟨nv,ov,F,hbv,hBI⟩:=qbd (qa0 bs lim 8 (i+1) 0)
 rw[hbv] at cG0
 have cG:=cG0
 unfold inA at cG
 have hnv0:=hBI.1
 have hnv1:=hBI.2.1
 have HBI:Hid (qb8 (qa0 bs lim 8 (i+1) 0) nv ov F):=hBI
 have HX:=qat W bs fm d l
 have hil:=hi.1
 clear h1 hc hs hm h1n hl hi cG0 hbv hBI
 unfold inA
 go_enter func207,ntmps207
 go_wp2_with (first
  |(go_at_call 113;refine HX.out.ck (cH1 _) ?_;clear cH1;intro w2 HX2 c0 c1 c2 c3;have n1:W.heap.size<w2.heap.size:=(by have:=HX2.out.size;omega);have n2:W.heap.size<w2.heap.size+1:=(by omega))
  |(go_at_call 231;refine(cG _).mono ?_;clear cG c0 c1 c2 c3;rintro e w3 ⟨rfl,hB3⟩;have HX3:Hid (qcE W (inA bs fm d l) w3):=((HX2.out.next (bwO (.cells #[.int .i64 3,.int .i64 3,.int .i64 5,.int .i64 4,.int .i64 6,.int .i64 7] 3))).next (bwO (.cells #[.int .i64 1,.int .i64 2,.int .i64 4,.int .i64 8] 3))).next hB3)
  |((with_reducible refine zF 13 95 rfl rfl (w3.heap.size) F ?_ ?_);exact⟨rfl,rfl,qab w3 _⟩;refine nmd ?_;intro V4 EV4;have HX4:Hid (qcE W (inA bs fm d l) V4):=EV4▸HX3.out.next (qal _ _);have HF4:Hid (V4.heap[w3.heap.size]? = some (.cells (qae F) 95)):=EV4▸setRow_heap _ _ _ _ _ _ (qab _ _);have HLT:Hid (W.heap.size+3≤w3.heap.size):=HX3.out.size;clear EV4;generalize w3.heap.size=M at *))
 refine rgn (S:=fun Z=>Z.heap[M]? = some (.cells (qae F) 95)) (HF4.out) (by kernel_rfl) ?_
 intro hS
 refine tk 8 108 (.agg (qae F)) rfl (by kernel_rfl) iQ3 (fun Z hZ=>yF 13 hZ rfl rfl) hS ?_
 refine tkk 0 100 (.int .i64 (kdT n)) (by kernel_rfl) iQ3 hS ?_
 refine tkk 1 101 (.int .i64 (nv)) (by kernel_rfl) iQ3 hS ?_
 refine tkk 2 102 (.int .i64 i) (by kernel_rfl) iQ3 hS ?_
 refine tk 3 103 (.int .i64 ((i:Int)+1)) rfl (by kernel_rfl) iQ3 (fun Z hZ => ?y3) hS ?_
 case y3=>(go_simp;exact qdL _ (by omega))
 refine tkk 4 104 (.int .i64 8) (by kernel_rfl) iQ3 hS ?_
 refine tk 5 105 (.int .i64 ((i:Int)+1+8)) rfl (by kernel_rfl) iQ3 (fun Z hZ => ?y5) hS ?_
 case y5=>(go_simp;exact qdL _ (by omega))
 refine tkk 6 106 (.bool ov) (by kernel_rfl) iQ3 hS ?_
 refine tk 7 107 (.agg (hdC (kdT n) (nv) ((i:Int)+1+8) ov)) rfl (by kernel_rfl) iQ3 (fun Z hZ => ?y7) hS ?_
 case y7=>(unfold hdC;go_simp)
 refine sH 9 4 107 (W.heap.size+1) (kdT n) (nv) ((i:Int)+1+8) ov (by kernel_rfl) (HX4.out.drew.hd) ((setRow_other _ (W.heap.size+1) M (hdC (kdT n) (nv) ((i:Int)+1+8) ov) (by have:=HLT.out;omega)).trans hS) ?_
 refine sF 10 5 108 (W.heap.size+2) F (by kernel_rfl) (sx (by omega) HX4.out.drew.flt) (sx (by have:=HLT.out;omega) ((setRow_other _ (W.heap.size+1) M (hdC (kdT n) (nv) ((i:Int)+1+8) ov) (by have:=HLT.out;omega)).trans hS)) ?_
 refine wpAnyH_done (by kernel_rfl) ?_ _
 go_simp
 go_wp2
 have hf:=HX4.out.drew.fin (hdC (kdT n) (nv) ((i:Int)+1+8) ov) (F)
 refine eoH results207 hf rfl rfl rfl ⟨?_,hf.2.2⟩
 exact⟨nv,ov,F,rfl,HBI.out⟩
end
end Go.Proofs.YtllcbnfmihfaaaaGreatDoor
