import Derived.Test.YtllcbnfmihfaaaaGreatDoorUq33
set_option maxRecDepth 100000
set_option maxHeartbeats 8000000
namespace Go.Proofs.YtllcbnfmihfaaaaGreatDoor
open Go.Proofs.Tryz
section
open Go.RowKit Go.Lib
theorem qgO (W:World)(bs:List UInt8)(fm d l lim:Int)(i:Nat)(c:UInt8)(hc:bs[i]? = some c)(h1:qaz bs l i=true)(hv:c.toNat=206)(hl:Lm bs l lim)(hi:InR bs lim (i+1))(hb:bs.length≤200000000):Calls prog 208 #[.agg (inA bs fm d l),.int .i64 i] W fun e W'=>qaY (qa0 bs lim 4 (i+1) 0) 3 (fun nv=>nv) ((i:Int)+1+4) e∧Below W.heap.size W W':=by
 have hix:=qdM hc hv
 have hib:=ltL hc
 have cH1:=qap fm d h1
 have cP:=fun V=>qa1 V bs fm d l lim i 3 4 (by decide) hl hi hb
 unfold inA at cP
 have HX:=qat W bs fm d l
 have hil:=hi.1
 clear h1 hc hv hl hi
 unfold inA
 go_enter func208,ntmps208
 go_wp2_with (first
  |(go_at_call 113;refine HX.out.ck (cH1 _) ?_;clear cH1;intro w2 HX2 c0 c1 c2 c3))
 refine rgn (S:=fun Z=>Z.heap[W.heap.size]? = some (.cells (inA bs fm d l) 143)) (HX2.out.drew.box) (by kernel_rfl) ?_
 intro hS
 refine tk 0 98 (.agg #[.string ⟨bs.toArray⟩,.int .i64 fm,.int .i64 d,.int .i64 l]) rfl (by kernel_rfl) iQ3 (fun Z hZ=>yI 2 hZ rfl rfl) hS ?_
 refine tkk 1 99 (.int .i64 i) (by kernel_rfl) iQ3 hS ?_
 refine tkk 2 100 (.int .i64 206) (by kernel_rfl) iQ3 hS ?_
 refine tkk 3 101 (.int .i64 2) (by kernel_rfl) iQ3 hS ?_
 refine tkk 4 102 (.int .i64 4) (by kernel_rfl) iQ3 hS ?_
 refine rdH 5 rfl (by kernel_rfl) (fun K hK => ?_)
 go_simp
 refine(cP _).mono ?_
 rintro e w9 ⟨⟨nv,ov,F,rfl,hBI⟩,hB9⟩
 simp only[]
 have HX9:=qac (HX2.out.drew.next hB9)
 have HBI:Hid (qb8 (qa0 bs lim 4 (i+1) 0) nv ov F):=hBI
 have hS9:=HX9.out.box
 refine hK.out _ _ hS9 (fun _ => ?_)
 clear hK
 refine tkk 6 104 (.agg (hdC 3 nv ((i:Int)+1+4) ov)) (by kernel_rfl) iQ3 hS9 ?_
 refine tkk 7 105 (.agg (qae F)) (by kernel_rfl) iQ3 hS9 ?_
 have hT9:=(setRow_other _ (W.heap.size+1) W.heap.size (hdC 3 nv ((i:Int)+1+4) ov) (by omega)).trans hS9
 refine sH 8 4 104 (W.heap.size+1) 3 nv ((i:Int)+1+4) ov (by kernel_rfl) (HX9.out.hd) (hT9) ?_
 refine sF 9 5 105 (W.heap.size+2) F (by kernel_rfl) (sx (by omega) HX9.out.flt) (sx (by omega) hT9) ?_
 refine wpAnyH_done (by kernel_rfl) ?_ _
 go_simp
 go_wp2
 have hf:=HX9.out.fin (hdC 3 nv ((i:Int)+1+4) ov) (F)
 refine eoH results208 hf rfl rfl rfl ⟨?_,hf.2.2⟩
 exact⟨nv,ov,F,rfl,HBI.out⟩
theorem qhc (W:World)(bs:List UInt8)(fm d l lim:Int)(i:Nat)(c:UInt8)(hc:bs[i]? = some c)(h1:qaz bs l i=true)(hv:c.toNat=207)(hl:Lm bs l lim)(hi:InR bs lim (i+1))(hb:bs.length≤200000000):Calls prog 208 #[.agg (inA bs fm d l),.int .i64 i] W fun e W'=>qaY (qa0 bs lim 8 (i+1) 0) 3 (fun nv=>nv) ((i:Int)+1+8) e∧Below W.heap.size W W':=by
 have hix:=qdM hc hv
 have hib:=ltL hc
 have cH1:=qap fm d h1
 have cP:=fun V=>qa1 V bs fm d l lim i 3 8 (by decide) hl hi hb
 unfold inA at cP
 have HX:=qat W bs fm d l
 have hil:=hi.1
 clear h1 hc hv hl hi
 unfold inA
 go_enter func208,ntmps208
 go_wp2_with (first
  |(go_at_call 113;refine HX.out.ck (cH1 _) ?_;clear cH1;intro w2 HX2 c0 c1 c2 c3))
 refine rgn (S:=fun Z=>Z.heap[W.heap.size]? = some (.cells (inA bs fm d l) 143)) (HX2.out.drew.box) (by kernel_rfl) ?_
 intro hS
 refine tk 0 98 (.agg #[.string ⟨bs.toArray⟩,.int .i64 fm,.int .i64 d,.int .i64 l]) rfl (by kernel_rfl) iQ3 (fun Z hZ=>yI 2 hZ rfl rfl) hS ?_
 refine tkk 1 99 (.int .i64 i) (by kernel_rfl) iQ3 hS ?_
 refine tkk 2 100 (.int .i64 207) (by kernel_rfl) iQ3 hS ?_
 refine tkk 3 101 (.int .i64 3) (by kernel_rfl) iQ3 hS ?_
 refine tkk 4 102 (.int .i64 8) (by kernel_rfl) iQ3 hS ?_
 refine rdH 5 rfl (by kernel_rfl) (fun K hK => ?_)
 go_simp
 refine(cP _).mono ?_
 rintro e w9 ⟨⟨nv,ov,F,rfl,hBI⟩,hB9⟩
 simp only[]
 have HX9:=qac (HX2.out.drew.next hB9)
 have HBI:Hid (qb8 (qa0 bs lim 8 (i+1) 0) nv ov F):=hBI
 have hS9:=HX9.out.box
 refine hK.out _ _ hS9 (fun _ => ?_)
 clear hK
 refine tkk 6 104 (.agg (hdC 3 nv ((i:Int)+1+8) ov)) (by kernel_rfl) iQ3 hS9 ?_
 refine tkk 7 105 (.agg (qae F)) (by kernel_rfl) iQ3 hS9 ?_
 have hT9:=(setRow_other _ (W.heap.size+1) W.heap.size (hdC 3 nv ((i:Int)+1+8) ov) (by omega)).trans hS9
 refine sH 8 4 104 (W.heap.size+1) 3 nv ((i:Int)+1+8) ov (by kernel_rfl) (HX9.out.hd) (hT9) ?_
 refine sF 9 5 105 (W.heap.size+2) F (by kernel_rfl) (sx (by omega) HX9.out.flt) (sx (by omega) hT9) ?_
 refine wpAnyH_done (by kernel_rfl) ?_ _
 go_simp
 go_wp2
 have hf:=HX9.out.fin (hdC 3 nv ((i:Int)+1+8) ov) (F)
 refine eoH results208 hf rfl rfl rfl ⟨?_,hf.2.2⟩
 exact⟨nv,ov,F,rfl,HBI.out⟩
theorem qhg (W:World)(bs:List UInt8)(fm d l lim:Int)(i:Nat)(c:UInt8)(hc:bs[i]? = some c)(h1:qaz bs l i=true)(hv:c.toNat=217)(hl:Lm bs l lim)(hi:InR bs lim (i+1))(hb:bs.length≤200000000):Calls prog 208 #[.agg (inA bs fm d l),.int .i64 i] W fun e W'=>qaY (qa0 bs lim 1 (i+1) 0) 4 (fun nv=>nv) ((i:Int)+1+1) e∧Below W.heap.size W W':=by
 have hix:=qdM hc hv
 have hib:=ltL hc
 have cH1:=qap fm d h1
 have cP:=fun V=>qa1 V bs fm d l lim i 4 1 (by decide) hl hi hb
 unfold inA at cP
 have HX:=qat W bs fm d l
 have hil:=hi.1
 clear h1 hc hv hl hi
 unfold inA
 go_enter func208,ntmps208
 go_wp2_with (first
  |(go_at_call 113;refine HX.out.ck (cH1 _) ?_;clear cH1;intro w2 HX2 c0 c1 c2 c3))
 refine rgn (S:=fun Z=>Z.heap[W.heap.size]? = some (.cells (inA bs fm d l) 143)) (HX2.out.drew.box) (by kernel_rfl) ?_
 intro hS
 refine tk 0 138 (.agg #[.string ⟨bs.toArray⟩,.int .i64 fm,.int .i64 d,.int .i64 l]) rfl (by kernel_rfl) iQ3 (fun Z hZ=>yI 2 hZ rfl rfl) hS ?_
 refine tkk 1 139 (.int .i64 i) (by kernel_rfl) iQ3 hS ?_
 refine tkk 2 140 (.int .i64 217) (by kernel_rfl) iQ3 hS ?_
 refine tkk 3 141 (.int .i64 0) (by kernel_rfl) iQ3 hS ?_
 refine tkk 4 142 (.int .i64 1) (by kernel_rfl) iQ3 hS ?_
 refine rdH 5 rfl (by kernel_rfl) (fun K hK => ?_)
 go_simp
 refine(cP _).mono ?_
 rintro e w9 ⟨⟨nv,ov,F,rfl,hBI⟩,hB9⟩
 simp only[]
 have HX9:=qac (HX2.out.drew.next hB9)
 have HBI:Hid (qb8 (qa0 bs lim 1 (i+1) 0) nv ov F):=hBI
 have hS9:=HX9.out.box
 refine hK.out _ _ hS9 (fun _ => ?_)
 clear hK
 refine tkk 6 144 (.agg (hdC 4 nv ((i:Int)+1+1) ov)) (by kernel_rfl) iQ3 hS9 ?_
 refine tkk 7 145 (.agg (qae F)) (by kernel_rfl) iQ3 hS9 ?_
 have hT9:=(setRow_other _ (W.heap.size+1) W.heap.size (hdC 4 nv ((i:Int)+1+1) ov) (by omega)).trans hS9
 refine sH 8 4 144 (W.heap.size+1) 4 nv ((i:Int)+1+1) ov (by kernel_rfl) (HX9.out.hd) (hT9) ?_
 refine sF 9 5 145 (W.heap.size+2) F (by kernel_rfl) (sx (by omega) HX9.out.flt) (sx (by omega) hT9) ?_
 refine wpAnyH_done (by kernel_rfl) ?_ _
 go_simp
 go_wp2
 have hf:=HX9.out.fin (hdC 4 nv ((i:Int)+1+1) ov) (F)
 refine eoH results208 hf rfl rfl rfl ⟨?_,hf.2.2⟩
 exact⟨nv,ov,F,rfl,HBI.out⟩
theorem qgo (W:World)(bs:List UInt8)(fm d l lim:Int)(i:Nat)(c:UInt8)(hc:bs[i]? = some c)(h1:qaz bs l i=true)(hv:c.toNat=218)(hl:Lm bs l lim)(hi:InR bs lim (i+1))(hb:bs.length≤200000000):Calls prog 208 #[.agg (inA bs fm d l),.int .i64 i] W fun e W'=>qaY (qa0 bs lim 2 (i+1) 0) 4 (fun nv=>nv) ((i:Int)+1+2) e∧Below W.heap.size W W':=by
 have hix:=qdM hc hv
 have hib:=ltL hc
 have cH1:=qap fm d h1
 have cP:=fun V=>qa1 V bs fm d l lim i 4 2 (by decide) hl hi hb
 unfold inA at cP
 have HX:=qat W bs fm d l
 have hil:=hi.1
 clear h1 hc hv hl hi
 unfold inA
 go_enter func208,ntmps208
 go_wp2_with (first
  |(go_at_call 113;refine HX.out.ck (cH1 _) ?_;clear cH1;intro w2 HX2 c0 c1 c2 c3))
 refine rgn (S:=fun Z=>Z.heap[W.heap.size]? = some (.cells (inA bs fm d l) 143)) (HX2.out.drew.box) (by kernel_rfl) ?_
 intro hS
 refine tk 0 138 (.agg #[.string ⟨bs.toArray⟩,.int .i64 fm,.int .i64 d,.int .i64 l]) rfl (by kernel_rfl) iQ3 (fun Z hZ=>yI 2 hZ rfl rfl) hS ?_
 refine tkk 1 139 (.int .i64 i) (by kernel_rfl) iQ3 hS ?_
 refine tkk 2 140 (.int .i64 218) (by kernel_rfl) iQ3 hS ?_
 refine tkk 3 141 (.int .i64 1) (by kernel_rfl) iQ3 hS ?_
 refine tkk 4 142 (.int .i64 2) (by kernel_rfl) iQ3 hS ?_
 refine rdH 5 rfl (by kernel_rfl) (fun K hK => ?_)
 go_simp
 refine(cP _).mono ?_
 rintro e w9 ⟨⟨nv,ov,F,rfl,hBI⟩,hB9⟩
 simp only[]
 have HX9:=qac (HX2.out.drew.next hB9)
 have HBI:Hid (qb8 (qa0 bs lim 2 (i+1) 0) nv ov F):=hBI
 have hS9:=HX9.out.box
 refine hK.out _ _ hS9 (fun _ => ?_)
 clear hK
 refine tkk 6 144 (.agg (hdC 4 nv ((i:Int)+1+2) ov)) (by kernel_rfl) iQ3 hS9 ?_
 refine tkk 7 145 (.agg (qae F)) (by kernel_rfl) iQ3 hS9 ?_
 have hT9:=(setRow_other _ (W.heap.size+1) W.heap.size (hdC 4 nv ((i:Int)+1+2) ov) (by omega)).trans hS9
 refine sH 8 4 144 (W.heap.size+1) 4 nv ((i:Int)+1+2) ov (by kernel_rfl) (HX9.out.hd) (hT9) ?_
 refine sF 9 5 145 (W.heap.size+2) F (by kernel_rfl) (sx (by omega) HX9.out.flt) (sx (by omega) hT9) ?_
 refine wpAnyH_done (by kernel_rfl) ?_ _
 go_simp
 go_wp2
 have hf:=HX9.out.fin (hdC 4 nv ((i:Int)+1+2) ov) (F)
 refine eoH results208 hf rfl rfl rfl ⟨?_,hf.2.2⟩
 exact⟨nv,ov,F,rfl,HBI.out⟩
theorem qgg (W:World)(bs:List UInt8)(fm d l lim:Int)(i:Nat)(c:UInt8)(hc:bs[i]? = some c)(h1:qaz bs l i=true)(hv:c.toNat=219)(hl:Lm bs l lim)(hi:InR bs lim (i+1))(hb:bs.length≤200000000):Calls prog 208 #[.agg (inA bs fm d l),.int .i64 i] W fun e W'=>qaY (qa0 bs lim 4 (i+1) 0) 4 (fun nv=>nv) ((i:Int)+1+4) e∧Below W.heap.size W W':=by
 have hix:=qdM hc hv
 have hib:=ltL hc
 have cH1:=qap fm d h1
 have cP:=fun V=>qa1 V bs fm d l lim i 4 4 (by decide) hl hi hb
 unfold inA at cP
 have HX:=qat W bs fm d l
 have hil:=hi.1
 clear h1 hc hv hl hi
 unfold inA
 go_enter func208,ntmps208
 go_wp2_with (first
  |(go_at_call 113;refine HX.out.ck (cH1 _) ?_;clear cH1;intro w2 HX2 c0 c1 c2 c3))
 refine rgn (S:=fun Z=>Z.heap[W.heap.size]? = some (.cells (inA bs fm d l) 143)) (HX2.out.drew.box) (by kernel_rfl) ?_
 intro hS
 refine tk 0 138 (.agg #[.string ⟨bs.toArray⟩,.int .i64 fm,.int .i64 d,.int .i64 l]) rfl (by kernel_rfl) iQ3 (fun Z hZ=>yI 2 hZ rfl rfl) hS ?_
 refine tkk 1 139 (.int .i64 i) (by kernel_rfl) iQ3 hS ?_
 refine tkk 2 140 (.int .i64 219) (by kernel_rfl) iQ3 hS ?_
 refine tkk 3 141 (.int .i64 2) (by kernel_rfl) iQ3 hS ?_
 refine tkk 4 142 (.int .i64 4) (by kernel_rfl) iQ3 hS ?_
 refine rdH 5 rfl (by kernel_rfl) (fun K hK => ?_)
 go_simp
 refine(cP _).mono ?_
 rintro e w9 ⟨⟨nv,ov,F,rfl,hBI⟩,hB9⟩
 simp only[]
 have HX9:=qac (HX2.out.drew.next hB9)
 have HBI:Hid (qb8 (qa0 bs lim 4 (i+1) 0) nv ov F):=hBI
 have hS9:=HX9.out.box
 refine hK.out _ _ hS9 (fun _ => ?_)
 clear hK
 refine tkk 6 144 (.agg (hdC 4 nv ((i:Int)+1+4) ov)) (by kernel_rfl) iQ3 hS9 ?_
 refine tkk 7 145 (.agg (qae F)) (by kernel_rfl) iQ3 hS9 ?_
 have hT9:=(setRow_other _ (W.heap.size+1) W.heap.size (hdC 4 nv ((i:Int)+1+4) ov) (by omega)).trans hS9
 refine sH 8 4 144 (W.heap.size+1) 4 nv ((i:Int)+1+4) ov (by kernel_rfl) (HX9.out.hd) (hT9) ?_
 refine sF 9 5 145 (W.heap.size+2) F (by kernel_rfl) (sx (by omega) HX9.out.flt) (sx (by omega) hT9) ?_
 refine wpAnyH_done (by kernel_rfl) ?_ _
 go_simp
 go_wp2
 have hf:=HX9.out.fin (hdC 4 nv ((i:Int)+1+4) ov) (F)
 refine eoH results208 hf rfl rfl rfl ⟨?_,hf.2.2⟩
 exact⟨nv,ov,F,rfl,HBI.out⟩
theorem qhs (W:World)(bs:List UInt8)(fm d l lim:Int)(i:Nat)(c:UInt8)(hc:bs[i]? = some c)(h1:qaz bs l i=true)(hv:c.toNat=220)(hl:Lm bs l lim)(hi:InR bs lim (i+1))(hb:bs.length≤200000000):Calls prog 208 #[.agg (inA bs fm d l),.int .i64 i] W fun e W'=>qaY (qa0 bs lim 2 (i+1) 0) 6 (fun nv=>nv) ((i:Int)+1+2) e∧Below W.heap.size W W':=by
 have hix:=qdM hc hv
 have hib:=ltL hc
 have cH1:=qap fm d h1
 have cP:=fun V=>qa1 V bs fm d l lim i 6 2 (by decide) hl hi hb
 unfold inA at cP
 have HX:=qat W bs fm d l
 have hil:=hi.1
 clear h1 hc hv hl hi
 unfold inA
 go_enter func208,ntmps208
 go_wp2_with (first
  |(go_at_call 113;refine HX.out.ck (cH1 _) ?_;clear cH1;intro w2 HX2 c0 c1 c2 c3)
  |(go_at_call 232;refine(cP _).mono ?_;clear cP c0 c1 c2 c3;rintro e w9 ⟨⟨nv,ov,F,rfl,hBI⟩,hB9⟩;have HX9:=qac (HX2.out.next hB9);have HBI:Hid (qb8 (qa0 bs lim 2 (i+1) 0) nv ov F):=hBI;clear hBI)
  |((with_reducible refine zH 4 159 rfl rfl (W.heap.size+1) 6 nv ((i:Int)+1+2) ov ?_ ?_);exact⟨rfl,rfl,HX9.out.hd⟩)
  |((with_reducible refine zF 5 160 rfl rfl (W.heap.size+2) (F) ?_ ?_);exact⟨rfl,rfl,sx (by omega) HX9.out.flt⟩))
 have hf:=HX9.out.fin (hdC 6 nv ((i:Int)+1+2) ov) (F)
 refine eoH results208 hf rfl rfl rfl ⟨?_,hf.2.2⟩
 exact⟨nv,ov,F,rfl,HBI.out⟩
theorem qgi (W:World)(bs:List UInt8)(fm d l lim:Int)(i:Nat)(c:UInt8)(hc:bs[i]? = some c)(h1:qaz bs l i=true)(hv:c.toNat=221)(hl:Lm bs l lim)(hi:InR bs lim (i+1))(hb:bs.length≤200000000):Calls prog 208 #[.agg (inA bs fm d l),.int .i64 i] W fun e W'=>qaY (qa0 bs lim 4 (i+1) 0) 6 (fun nv=>nv) ((i:Int)+1+4) e∧Below W.heap.size W W':=by
 have hix:=qdM hc hv
 have hib:=ltL hc
 have cH1:=qap fm d h1
 have cP:=fun V=>qa1 V bs fm d l lim i 6 4 (by decide) hl hi hb
 unfold inA at cP
 have HX:=qat W bs fm d l
 have hil:=hi.1
 clear h1 hc hv hl hi
 unfold inA
 go_enter func208,ntmps208
 go_wp2_with (first
  |(go_at_call 113;refine HX.out.ck (cH1 _) ?_;clear cH1;intro w2 HX2 c0 c1 c2 c3)
  |(go_at_call 232;refine(cP _).mono ?_;clear cP c0 c1 c2 c3;rintro e w9 ⟨⟨nv,ov,F,rfl,hBI⟩,hB9⟩;have HX9:=qac (HX2.out.next hB9);have HBI:Hid (qb8 (qa0 bs lim 4 (i+1) 0) nv ov F):=hBI;clear hBI)
  |((with_reducible refine zH 4 159 rfl rfl (W.heap.size+1) 6 nv ((i:Int)+1+4) ov ?_ ?_);exact⟨rfl,rfl,HX9.out.hd⟩)
  |((with_reducible refine zF 5 160 rfl rfl (W.heap.size+2) (F) ?_ ?_);exact⟨rfl,rfl,sx (by omega) HX9.out.flt⟩))
 have hf:=HX9.out.fin (hdC 6 nv ((i:Int)+1+4) ov) (F)
 refine eoH results208 hf rfl rfl rfl ⟨?_,hf.2.2⟩
 exact⟨nv,ov,F,rfl,HBI.out⟩
theorem qgM (W:World)(bs:List UInt8)(fm d l lim:Int)(i:Nat)(c:UInt8)(hc:bs[i]? = some c)(h1:qaz bs l i=true)(hv:c.toNat=222)(hl:Lm bs l lim)(hi:InR bs lim (i+1))(hb:bs.length≤200000000):Calls prog 208 #[.agg (inA bs fm d l),.int .i64 i] W fun e W'=>qaY (qa0 bs lim 2 (i+1) 0) 7 (fun nv=>nv) ((i:Int)+1+2) e∧Below W.heap.size W W':=by
 have hix:=qdM hc hv
 have hib:=ltL hc
 have cH1:=qap fm d h1
 have cP:=fun V=>qa1 V bs fm d l lim i 7 2 (by decide) hl hi hb
 unfold inA at cP
 have HX:=qat W bs fm d l
 have hil:=hi.1
 clear h1 hc hv hl hi
 unfold inA
 go_enter func208,ntmps208
 go_wp2_with (first
  |(go_at_call 113;refine HX.out.ck (cH1 _) ?_;clear cH1;intro w2 HX2 c0 c1 c2 c3)
  |(go_at_call 232;refine(cP _).mono ?_;clear cP c0 c1 c2 c3;rintro e w9 ⟨⟨nv,ov,F,rfl,hBI⟩,hB9⟩;have HX9:=qac (HX2.out.next hB9);have HBI:Hid (qb8 (qa0 bs lim 2 (i+1) 0) nv ov F):=hBI;clear hBI)
  |((with_reducible refine zH 4 174 rfl rfl (W.heap.size+1) 7 nv ((i:Int)+1+2) ov ?_ ?_);exact⟨rfl,rfl,HX9.out.hd⟩)
  |((with_reducible refine zF 5 175 rfl rfl (W.heap.size+2) (F) ?_ ?_);exact⟨rfl,rfl,sx (by omega) HX9.out.flt⟩))
 have hf:=HX9.out.fin (hdC 7 nv ((i:Int)+1+2) ov) (F)
 refine eoH results208 hf rfl rfl rfl ⟨?_,hf.2.2⟩
 exact⟨nv,ov,F,rfl,HBI.out⟩
theorem qhi (W:World)(bs:List UInt8)(fm d l lim:Int)(i:Nat)(c:UInt8)(hc:bs[i]? = some c)(h1:qaz bs l i=true)(hv:c.toNat=223)(hl:Lm bs l lim)(hi:InR bs lim (i+1))(hb:bs.length≤200000000):Calls prog 208 #[.agg (inA bs fm d l),.int .i64 i] W fun e W'=>qaY (qa0 bs lim 4 (i+1) 0) 7 (fun nv=>nv) ((i:Int)+1+4) e∧Below W.heap.size W W':=by
 have hix:=qdM hc hv
 have hib:=ltL hc
 have cH1:=qap fm d h1
 have cP:=fun V=>qa1 V bs fm d l lim i 7 4 (by decide) hl hi hb
 unfold inA at cP
 have HX:=qat W bs fm d l
 have hil:=hi.1
 clear h1 hc hv hl hi
 unfold inA
 go_enter func208,ntmps208
 go_wp2_with (first
  |(go_at_call 113;refine HX.out.ck (cH1 _) ?_;clear cH1;intro w2 HX2 c0 c1 c2 c3)
  |(go_at_call 232;refine(cP _).mono ?_;clear cP c0 c1 c2 c3;rintro e w9 ⟨⟨nv,ov,F,rfl,hBI⟩,hB9⟩;have HX9:=qac (HX2.out.next hB9);have HBI:Hid (qb8 (qa0 bs lim 4 (i+1) 0) nv ov F):=hBI;clear hBI)
  |((with_reducible refine zH 4 174 rfl rfl (W.heap.size+1) 7 nv ((i:Int)+1+4) ov ?_ ?_);exact⟨rfl,rfl,HX9.out.hd⟩)
  |((with_reducible refine zF 5 175 rfl rfl (W.heap.size+2) (F) ?_ ?_);exact⟨rfl,rfl,sx (by omega) HX9.out.flt⟩))
 have hf:=HX9.out.fin (hdC 7 nv ((i:Int)+1+4) ov) (F)
 refine eoH results208 hf rfl rfl rfl ⟨?_,hf.2.2⟩
 exact⟨nv,ov,F,rfl,HBI.out⟩
theorem qfS (W:World)(bs:List UInt8)(fm d l _lim:Int)(i:Nat)(x:Int×Int)(h2:qaI bs l (i+1) 9=x)(h3:qaz bs l (i+1)=false)(c:UInt8)(hc:bs[i]? = some c)(h1:qaz bs l i=true)(hv:c.toNat=208)(hb:bs.length≤200000000):Calls prog 208 #[.agg (inA bs fm d l),.int .i64 i] W fun e W'=>qbj x e∧Below W.heap.size W W':=by
 have hix:=qdM hc hv
 have hib:=ltL hc
 have cH1:=qap fm d h1
 have cH2:∀V,Calls prog 113 #[.agg #[.string ⟨bs.toArray⟩,.int .i64 fm,.int .i64 d,.int .i64 l],.int .i64 ((i:Int)+1)] V fun e W'=>e=.returned (.bool false)∧Below V.heap.size V W':=fun V=>by
  have h:=qbp V bs fm d l (i+1)
  rw[h3] at h
  exact h
 have cB1:∀V,Calls prog 71 #[.agg #[.string ⟨bs.toArray⟩,.int .i64 fm,.int .i64 d,.int .i64 l],.int .i64 ((i:Int)+1),.int .i64 9] V fun e W'=>e=.returned (.agg (qae x))∧Below V.heap.size V W':=fun V=>by
  have h:=qaR V bs fm d l (i+1) 9
  rw[h2] at h
  exact h
 have HX:=qat W bs fm d l
 clear h1 h2 h3 hc hv
 unfold inA
 go_enter func208,ntmps208
 go_wp2_with (first
  |(go_at_call 113;refine HX.out.ck (cH1 _) ?_;clear cH1;intro w2 HX2 c0 c1 c2 c3)
  |(go_at_call 113;refine HX2.out.ck (cH2 _) ?_;clear cH2 c0 c1 c2 c3;intro w4 HX4 c0 c1 c2 c3)
  |(go_at_call 71;refine HX4.out.ck (cB1 _) ?_;clear cB1 c0 c1 c2 c3;intro w3 HX3 c0 c1 c2 c3)
  |((with_reducible refine zH 4 118 rfl rfl (W.heap.size+1) 0 0 0 false ?_ ?_);exact⟨rfl,rfl,HX3.out.hd⟩)
  |((with_reducible refine zF 5 122 rfl rfl (W.heap.size+2) (x) ?_ ?_);exact⟨rfl,rfl,sx (by omega) HX3.out.flt⟩))
 have hf:=HX3.out.fin (hdC 0 0 0 false) (x)
 refine eoH results208 hf rfl rfl rfl ⟨?_,hf.2.2⟩
 exact⟨0,0,0,false,rfl⟩
theorem qgs (W:World)(bs:List UInt8)(fm d l lim:Int)(i:Nat)(c:UInt8)(hc:bs[i]? = some c)(h1:qaz bs l i=true)(hv:c.toNat=208)(h3:qaz bs l (i+1)=true)(c1:UInt8)(hc1:bs[i+1]? = some c1)(hl:Lm bs l lim)(hi:InR bs lim (i+2))(hb:bs.length≤200000000):Calls prog 208 #[.agg (inA bs fm d l),.int .i64 i] W fun e W'=>qcT (qa0 bs lim 0 (i+2) 0) c1 i 1 e∧Below W.heap.size W W':=by
 have hix:=qdM hc hv
 have hib:=ltL hc
 have cH1:=qap fm d h1
 have cH2:∀V,Calls prog 113 #[.agg #[.string ⟨bs.toArray⟩,.int .i64 fm,.int .i64 d,.int .i64 l],.int .i64 ((i:Int)+1)] V fun e W'=>e=.returned (.bool true)∧Below V.heap.size V W':=fun V=>by
  have h:=qbp V bs fm d l (i+1)
  rw[h3] at h
  exact h
 have cP:=fun V=>qb5 V bs fm d l lim i 1 (by decide) (by decide) c1 hl hb hi hc1
 unfold inA at cP
 have HX:=qat W bs fm d l
 have hil:=hi.1
 clear h1 h3 hc hv hl hi hc1
 unfold inA
 go_enter func208,ntmps208
 go_wp2_with (first
  |(go_at_call 113;refine HX.out.ck (cH1 _) ?_;clear cH1;intro w2 HX2 c0 c1 c2 c3)
  |(go_at_call 113;refine HX2.out.ck (cH2 _) ?_;clear cH2 c0 c1 c2 c3;intro w4 HX4 c0 c1 c2 c3))
 refine rgn (S:=fun Z=>Z.heap[W.heap.size]? = some (.cells (inA bs fm d l) 143)) (HX4.out.drew.box) (by kernel_rfl) ?_
 intro hS
 refine tk 0 123 (.agg #[.string ⟨bs.toArray⟩,.int .i64 fm,.int .i64 d,.int .i64 l]) rfl (by kernel_rfl) iQ3 (fun Z hZ=>yI 2 hZ rfl rfl) hS ?_
 refine tkk 1 124 (.int .i64 i) (by kernel_rfl) iQ3 hS ?_
 refine tkk 2 125 (.int .i64 208) (by kernel_rfl) iQ3 hS ?_
 refine tkk 3 126 (.int .i64 0) (by kernel_rfl) iQ3 hS ?_
 refine tkk 4 127 (.int .i64 1) (by kernel_rfl) iQ3 hS ?_
 refine rdH 5 rfl (by kernel_rfl) (fun K hK => ?_)
 go_simp
 refine(cP _).mono ?_
 rintro e w9 ⟨⟨a,n,q,o,F,rfl,hBI⟩,hB9⟩
 simp only[]
 have HX9:=qac (HX4.out.drew.next hB9)
 have HBI:Hid _:=hBI
 have hS9:=HX9.out.box
 refine hK.out _ _ hS9 (fun _ => ?_)
 clear hK
 refine tkk 6 129 (.agg (hdC a n q o)) (by kernel_rfl) iQ3 hS9 ?_
 refine tkk 7 130 (.agg (qae F)) (by kernel_rfl) iQ3 hS9 ?_
 have hT9:=(setRow_other _ (W.heap.size+1) W.heap.size (hdC a n q o) (by omega)).trans hS9
 refine sH 8 4 129 (W.heap.size+1) a n q o (by kernel_rfl) (HX9.out.hd) (hT9) ?_
 refine sF 9 5 130 (W.heap.size+2) F (by kernel_rfl) (sx (by omega) HX9.out.flt) (sx (by omega) hT9) ?_
 refine wpAnyH_done (by kernel_rfl) ?_ _
 go_simp
 go_wp2
 have hf:=HX9.out.fin (hdC a n q o) (F)
 refine eoH results208 hf rfl rfl rfl ⟨?_,hf.2.2⟩
 exact⟨a,n,q,o,F,rfl,HBI.out⟩
theorem qfR (W:World)(bs:List UInt8)(fm d l _lim:Int)(i:Nat)(x:Int×Int)(h2:qaI bs l (i+1) 9=x)(h3:qaz bs l (i+1)=false)(c:UInt8)(hc:bs[i]? = some c)(h1:qaz bs l i=true)(hv:c.toNat=209)(hb:bs.length≤200000000):Calls prog 208 #[.agg (inA bs fm d l),.int .i64 i] W fun e W'=>qbj x e∧Below W.heap.size W W':=by
 have hix:=qdM hc hv
 have hib:=ltL hc
 have cH1:=qap fm d h1
 have cH2:∀V,Calls prog 113 #[.agg #[.string ⟨bs.toArray⟩,.int .i64 fm,.int .i64 d,.int .i64 l],.int .i64 ((i:Int)+1)] V fun e W'=>e=.returned (.bool false)∧Below V.heap.size V W':=fun V=>by
  have h:=qbp V bs fm d l (i+1)
  rw[h3] at h
  exact h
 have cB1:∀V,Calls prog 71 #[.agg #[.string ⟨bs.toArray⟩,.int .i64 fm,.int .i64 d,.int .i64 l],.int .i64 ((i:Int)+1),.int .i64 9] V fun e W'=>e=.returned (.agg (qae x))∧Below V.heap.size V W':=fun V=>by
  have h:=qaR V bs fm d l (i+1) 9
  rw[h2] at h
  exact h
 have HX:=qat W bs fm d l
 clear h1 h2 h3 hc hv
 unfold inA
 go_enter func208,ntmps208
 go_wp2_with (first
  |(go_at_call 113;refine HX.out.ck (cH1 _) ?_;clear cH1;intro w2 HX2 c0 c1 c2 c3)
  |(go_at_call 113;refine HX2.out.ck (cH2 _) ?_;clear cH2 c0 c1 c2 c3;intro w4 HX4 c0 c1 c2 c3)
  |(go_at_call 71;refine HX4.out.ck (cB1 _) ?_;clear cB1 c0 c1 c2 c3;intro w3 HX3 c0 c1 c2 c3)
  |((with_reducible refine zH 4 118 rfl rfl (W.heap.size+1) 0 0 0 false ?_ ?_);exact⟨rfl,rfl,HX3.out.hd⟩)
  |((with_reducible refine zF 5 122 rfl rfl (W.heap.size+2) (x) ?_ ?_);exact⟨rfl,rfl,sx (by omega) HX3.out.flt⟩))
 have hf:=HX3.out.fin (hdC 0 0 0 false) (x)
 refine eoH results208 hf rfl rfl rfl ⟨?_,hf.2.2⟩
 exact⟨0,0,0,false,rfl⟩
theorem qht (W:World)(bs:List UInt8)(fm d l lim:Int)(i:Nat)(c:UInt8)(hc:bs[i]? = some c)(h1:qaz bs l i=true)(hv:c.toNat=209)(h3:qaz bs l (i+1)=true)(c1:UInt8)(hc1:bs[i+1]? = some c1)(hl:Lm bs l lim)(hi:InR bs lim (i+2))(hb:bs.length≤200000000):Calls prog 208 #[.agg (inA bs fm d l),.int .i64 i] W fun e W'=>qcT (qa0 bs lim 1 (i+2) 0) c1 i 2 e∧Below W.heap.size W W':=by
 have hix:=qdM hc hv
 have hib:=ltL hc
 have cH1:=qap fm d h1
 have cH2:∀V,Calls prog 113 #[.agg #[.string ⟨bs.toArray⟩,.int .i64 fm,.int .i64 d,.int .i64 l],.int .i64 ((i:Int)+1)] V fun e W'=>e=.returned (.bool true)∧Below V.heap.size V W':=fun V=>by
  have h:=qbp V bs fm d l (i+1)
  rw[h3] at h
  exact h
 have cP:=fun V=>qb5 V bs fm d l lim i 2 (by decide) (by decide) c1 hl hb hi hc1
 unfold inA at cP
 have HX:=qat W bs fm d l
 have hil:=hi.1
 clear h1 h3 hc hv hl hi hc1
 unfold inA
 go_enter func208,ntmps208
 go_wp2_with (first
  |(go_at_call 113;refine HX.out.ck (cH1 _) ?_;clear cH1;intro w2 HX2 c0 c1 c2 c3)
  |(go_at_call 113;refine HX2.out.ck (cH2 _) ?_;clear cH2 c0 c1 c2 c3;intro w4 HX4 c0 c1 c2 c3))
 refine rgn (S:=fun Z=>Z.heap[W.heap.size]? = some (.cells (inA bs fm d l) 143)) (HX4.out.drew.box) (by kernel_rfl) ?_
 intro hS
 refine tk 0 123 (.agg #[.string ⟨bs.toArray⟩,.int .i64 fm,.int .i64 d,.int .i64 l]) rfl (by kernel_rfl) iQ3 (fun Z hZ=>yI 2 hZ rfl rfl) hS ?_
 refine tkk 1 124 (.int .i64 i) (by kernel_rfl) iQ3 hS ?_
 refine tkk 2 125 (.int .i64 209) (by kernel_rfl) iQ3 hS ?_
 refine tkk 3 126 (.int .i64 1) (by kernel_rfl) iQ3 hS ?_
 refine tkk 4 127 (.int .i64 2) (by kernel_rfl) iQ3 hS ?_
 refine rdH 5 rfl (by kernel_rfl) (fun K hK => ?_)
 go_simp
 refine(cP _).mono ?_
 rintro e w9 ⟨⟨a,n,q,o,F,rfl,hBI⟩,hB9⟩
 simp only[]
 have HX9:=qac (HX4.out.drew.next hB9)
 have HBI:Hid _:=hBI
 have hS9:=HX9.out.box
 refine hK.out _ _ hS9 (fun _ => ?_)
 clear hK
 refine tkk 6 129 (.agg (hdC a n q o)) (by kernel_rfl) iQ3 hS9 ?_
 refine tkk 7 130 (.agg (qae F)) (by kernel_rfl) iQ3 hS9 ?_
 have hT9:=(setRow_other _ (W.heap.size+1) W.heap.size (hdC a n q o) (by omega)).trans hS9
 refine sH 8 4 129 (W.heap.size+1) a n q o (by kernel_rfl) (HX9.out.hd) (hT9) ?_
 refine sF 9 5 130 (W.heap.size+2) F (by kernel_rfl) (sx (by omega) HX9.out.flt) (sx (by omega) hT9) ?_
 refine wpAnyH_done (by kernel_rfl) ?_ _
 go_simp
 go_wp2
 have hf:=HX9.out.fin (hdC a n q o) (F)
 refine eoH results208 hf rfl rfl rfl ⟨?_,hf.2.2⟩
 exact⟨a,n,q,o,F,rfl,HBI.out⟩
theorem qfN (W:World)(bs:List UInt8)(fm d l _lim:Int)(i:Nat)(x:Int×Int)(h2:qaI bs l (i+1) 9=x)(h3:qaz bs l (i+1)=false)(c:UInt8)(hc:bs[i]? = some c)(h1:qaz bs l i=true)(hv:c.toNat=210)(hb:bs.length≤200000000):Calls prog 208 #[.agg (inA bs fm d l),.int .i64 i] W fun e W'=>qbj x e∧Below W.heap.size W W':=by
 have hix:=qdM hc hv
 have hib:=ltL hc
 have cH1:=qap fm d h1
 have cH2:∀V,Calls prog 113 #[.agg #[.string ⟨bs.toArray⟩,.int .i64 fm,.int .i64 d,.int .i64 l],.int .i64 ((i:Int)+1)] V fun e W'=>e=.returned (.bool false)∧Below V.heap.size V W':=fun V=>by
  have h:=qbp V bs fm d l (i+1)
  rw[h3] at h
  exact h
 have cB1:∀V,Calls prog 71 #[.agg #[.string ⟨bs.toArray⟩,.int .i64 fm,.int .i64 d,.int .i64 l],.int .i64 ((i:Int)+1),.int .i64 9] V fun e W'=>e=.returned (.agg (qae x))∧Below V.heap.size V W':=fun V=>by
  have h:=qaR V bs fm d l (i+1) 9
  rw[h2] at h
  exact h
 have HX:=qat W bs fm d l
 clear h1 h2 h3 hc hv
 unfold inA
 go_enter func208,ntmps208
 go_wp2_with (first
  |(go_at_call 113;refine HX.out.ck (cH1 _) ?_;clear cH1;intro w2 HX2 c0 c1 c2 c3)
  |(go_at_call 113;refine HX2.out.ck (cH2 _) ?_;clear cH2 c0 c1 c2 c3;intro w4 HX4 c0 c1 c2 c3)
  |(go_at_call 71;refine HX4.out.ck (cB1 _) ?_;clear cB1 c0 c1 c2 c3;intro w3 HX3 c0 c1 c2 c3)
  |((with_reducible refine zH 4 118 rfl rfl (W.heap.size+1) 0 0 0 false ?_ ?_);exact⟨rfl,rfl,HX3.out.hd⟩)
  |((with_reducible refine zF 5 122 rfl rfl (W.heap.size+2) (x) ?_ ?_);exact⟨rfl,rfl,sx (by omega) HX3.out.flt⟩))
 have hf:=HX3.out.fin (hdC 0 0 0 false) (x)
 refine eoH results208 hf rfl rfl rfl ⟨?_,hf.2.2⟩
 exact⟨0,0,0,false,rfl⟩
theorem qgQ (W:World)(bs:List UInt8)(fm d l lim:Int)(i:Nat)(c:UInt8)(hc:bs[i]? = some c)(h1:qaz bs l i=true)(hv:c.toNat=210)(h3:qaz bs l (i+1)=true)(c1:UInt8)(hc1:bs[i+1]? = some c1)(hl:Lm bs l lim)(hi:InR bs lim (i+2))(hb:bs.length≤200000000):Calls prog 208 #[.agg (inA bs fm d l),.int .i64 i] W fun e W'=>qcT (qa0 bs lim 3 (i+2) 0) c1 i 4 e∧Below W.heap.size W W':=by
 have hix:=qdM hc hv
 have hib:=ltL hc
 have cH1:=qap fm d h1
 have cH2:∀V,Calls prog 113 #[.agg #[.string ⟨bs.toArray⟩,.int .i64 fm,.int .i64 d,.int .i64 l],.int .i64 ((i:Int)+1)] V fun e W'=>e=.returned (.bool true)∧Below V.heap.size V W':=fun V=>by
  have h:=qbp V bs fm d l (i+1)
  rw[h3] at h
  exact h
 have cP:=fun V=>qb5 V bs fm d l lim i 4 (by decide) (by decide) c1 hl hb hi hc1
 unfold inA at cP
 have HX:=qat W bs fm d l
 have hil:=hi.1
 clear h1 h3 hc hv hl hi hc1
 unfold inA
 go_enter func208,ntmps208
 go_wp2_with (first
  |(go_at_call 113;refine HX.out.ck (cH1 _) ?_;clear cH1;intro w2 HX2 c0 c1 c2 c3)
  |(go_at_call 113;refine HX2.out.ck (cH2 _) ?_;clear cH2 c0 c1 c2 c3;intro w4 HX4 c0 c1 c2 c3))
 refine rgn (S:=fun Z=>Z.heap[W.heap.size]? = some (.cells (inA bs fm d l) 143)) (HX4.out.drew.box) (by kernel_rfl) ?_
 intro hS
 refine tk 0 123 (.agg #[.string ⟨bs.toArray⟩,.int .i64 fm,.int .i64 d,.int .i64 l]) rfl (by kernel_rfl) iQ3 (fun Z hZ=>yI 2 hZ rfl rfl) hS ?_
 refine tkk 1 124 (.int .i64 i) (by kernel_rfl) iQ3 hS ?_
 refine tkk 2 125 (.int .i64 210) (by kernel_rfl) iQ3 hS ?_
 refine tkk 3 126 (.int .i64 2) (by kernel_rfl) iQ3 hS ?_
 refine tkk 4 127 (.int .i64 4) (by kernel_rfl) iQ3 hS ?_
 refine rdH 5 rfl (by kernel_rfl) (fun K hK => ?_)
 go_simp
 refine(cP _).mono ?_
 rintro e w9 ⟨⟨a,n,q,o,F,rfl,hBI⟩,hB9⟩
 simp only[]
 have HX9:=qac (HX4.out.drew.next hB9)
 have HBI:Hid _:=hBI
 have hS9:=HX9.out.box
 refine hK.out _ _ hS9 (fun _ => ?_)
 clear hK
 refine tkk 6 129 (.agg (hdC a n q o)) (by kernel_rfl) iQ3 hS9 ?_
 refine tkk 7 130 (.agg (qae F)) (by kernel_rfl) iQ3 hS9 ?_
 have hT9:=(setRow_other _ (W.heap.size+1) W.heap.size (hdC a n q o) (by omega)).trans hS9
 refine sH 8 4 129 (W.heap.size+1) a n q o (by kernel_rfl) (HX9.out.hd) (hT9) ?_
 refine sF 9 5 130 (W.heap.size+2) F (by kernel_rfl) (sx (by omega) HX9.out.flt) (sx (by omega) hT9) ?_
 refine wpAnyH_done (by kernel_rfl) ?_ _
 go_simp
 go_wp2
 have hf:=HX9.out.fin (hdC a n q o) (F)
 refine eoH results208 hf rfl rfl rfl ⟨?_,hf.2.2⟩
 exact⟨a,n,q,o,F,rfl,HBI.out⟩
theorem qf3 (W:World)(bs:List UInt8)(fm d l _lim:Int)(i:Nat)(x:Int×Int)(h2:qaI bs l (i+1) 9=x)(h3:qaz bs l (i+1)=false)(c:UInt8)(hc:bs[i]? = some c)(h1:qaz bs l i=true)(hv:c.toNat=211)(hb:bs.length≤200000000):Calls prog 208 #[.agg (inA bs fm d l),.int .i64 i] W fun e W'=>qbj x e∧Below W.heap.size W W':=by
 have hix:=qdM hc hv
 have hib:=ltL hc
 have cH1:=qap fm d h1
 have cH2:∀V,Calls prog 113 #[.agg #[.string ⟨bs.toArray⟩,.int .i64 fm,.int .i64 d,.int .i64 l],.int .i64 ((i:Int)+1)] V fun e W'=>e=.returned (.bool false)∧Below V.heap.size V W':=fun V=>by
  have h:=qbp V bs fm d l (i+1)
  rw[h3] at h
  exact h
 have cB1:∀V,Calls prog 71 #[.agg #[.string ⟨bs.toArray⟩,.int .i64 fm,.int .i64 d,.int .i64 l],.int .i64 ((i:Int)+1),.int .i64 9] V fun e W'=>e=.returned (.agg (qae x))∧Below V.heap.size V W':=fun V=>by
  have h:=qaR V bs fm d l (i+1) 9
  rw[h2] at h
  exact h
 have HX:=qat W bs fm d l
 clear h1 h2 h3 hc hv
 unfold inA
 go_enter func208,ntmps208
 go_wp2_with (first
  |(go_at_call 113;refine HX.out.ck (cH1 _) ?_;clear cH1;intro w2 HX2 c0 c1 c2 c3)
  |(go_at_call 113;refine HX2.out.ck (cH2 _) ?_;clear cH2 c0 c1 c2 c3;intro w4 HX4 c0 c1 c2 c3)
  |(go_at_call 71;refine HX4.out.ck (cB1 _) ?_;clear cB1 c0 c1 c2 c3;intro w3 HX3 c0 c1 c2 c3)
  |((with_reducible refine zH 4 118 rfl rfl (W.heap.size+1) 0 0 0 false ?_ ?_);exact⟨rfl,rfl,HX3.out.hd⟩)
  |((with_reducible refine zF 5 122 rfl rfl (W.heap.size+2) (x) ?_ ?_);exact⟨rfl,rfl,sx (by omega) HX3.out.flt⟩))
 have hf:=HX3.out.fin (hdC 0 0 0 false) (x)
 refine eoH results208 hf rfl rfl rfl ⟨?_,hf.2.2⟩
 exact⟨0,0,0,false,rfl⟩
theorem qhb (W:World)(bs:List UInt8)(fm d l lim:Int)(i:Nat)(c:UInt8)(hc:bs[i]? = some c)(h1:qaz bs l i=true)(hv:c.toNat=211)(h3:qaz bs l (i+1)=true)(c1:UInt8)(hc1:bs[i+1]? = some c1)(hl:Lm bs l lim)(hi:InR bs lim (i+2))(hb:bs.length≤200000000):Calls prog 208 #[.agg (inA bs fm d l),.int .i64 i] W fun e W'=>qcT (qa0 bs lim 7 (i+2) 0) c1 i 8 e∧Below W.heap.size W W':=by
 have hix:=qdM hc hv
 have hib:=ltL hc
 have cH1:=qap fm d h1
 have cH2:∀V,Calls prog 113 #[.agg #[.string ⟨bs.toArray⟩,.int .i64 fm,.int .i64 d,.int .i64 l],.int .i64 ((i:Int)+1)] V fun e W'=>e=.returned (.bool true)∧Below V.heap.size V W':=fun V=>by
  have h:=qbp V bs fm d l (i+1)
  rw[h3] at h
  exact h
 have cP:=fun V=>qb5 V bs fm d l lim i 8 (by decide) (by decide) c1 hl hb hi hc1
 unfold inA at cP
 have HX:=qat W bs fm d l
 have hil:=hi.1
 clear h1 h3 hc hv hl hi hc1
 unfold inA
 go_enter func208,ntmps208
 go_wp2_with (first
  |(go_at_call 113;refine HX.out.ck (cH1 _) ?_;clear cH1;intro w2 HX2 c0 c1 c2 c3)
  |(go_at_call 113;refine HX2.out.ck (cH2 _) ?_;clear cH2 c0 c1 c2 c3;intro w4 HX4 c0 c1 c2 c3))
 refine rgn (S:=fun Z=>Z.heap[W.heap.size]? = some (.cells (inA bs fm d l) 143)) (HX4.out.drew.box) (by kernel_rfl) ?_
 intro hS
 refine tk 0 123 (.agg #[.string ⟨bs.toArray⟩,.int .i64 fm,.int .i64 d,.int .i64 l]) rfl (by kernel_rfl) iQ3 (fun Z hZ=>yI 2 hZ rfl rfl) hS ?_
 refine tkk 1 124 (.int .i64 i) (by kernel_rfl) iQ3 hS ?_
 refine tkk 2 125 (.int .i64 211) (by kernel_rfl) iQ3 hS ?_
 refine tkk 3 126 (.int .i64 3) (by kernel_rfl) iQ3 hS ?_
 refine tkk 4 127 (.int .i64 8) (by kernel_rfl) iQ3 hS ?_
 refine rdH 5 rfl (by kernel_rfl) (fun K hK => ?_)
 go_simp
 refine(cP _).mono ?_
 rintro e w9 ⟨⟨a,n,q,o,F,rfl,hBI⟩,hB9⟩
 simp only[]
 have HX9:=qac (HX4.out.drew.next hB9)
 have HBI:Hid _:=hBI
 have hS9:=HX9.out.box
 refine hK.out _ _ hS9 (fun _ => ?_)
 clear hK
 refine tkk 6 129 (.agg (hdC a n q o)) (by kernel_rfl) iQ3 hS9 ?_
 refine tkk 7 130 (.agg (qae F)) (by kernel_rfl) iQ3 hS9 ?_
 have hT9:=(setRow_other _ (W.heap.size+1) W.heap.size (hdC a n q o) (by omega)).trans hS9
 refine sH 8 4 129 (W.heap.size+1) a n q o (by kernel_rfl) (HX9.out.hd) (hT9) ?_
 refine sF 9 5 130 (W.heap.size+2) F (by kernel_rfl) (sx (by omega) HX9.out.flt) (sx (by omega) hT9) ?_
 refine wpAnyH_done (by kernel_rfl) ?_ _
 go_simp
 go_wp2
 have hf:=HX9.out.fin (hdC a n q o) (F)
 refine eoH results208 hf rfl rfl rfl ⟨?_,hf.2.2⟩
 exact⟨a,n,q,o,F,rfl,HBI.out⟩
end
end Go.Proofs.YtllcbnfmihfaaaaGreatDoor
