import Derived.Test.YtllcbnfmihfaaaaGreatDoorUq41
set_option maxRecDepth 100000
set_option maxHeartbeats 8000000
namespace Go.Proofs.YtllcbnfmihfaaaaGreatDoor
open Go.Proofs.Tryz
section
open Go.RowKit Go.Lib
theorem qlU (k:Nat)(W:World)(bs:List UInt8)(fm d l lim:Int)(i:Nat)(dp:Int)(b:Nat)(ka ua:Option Addr)(kn kc un uc:Nat)(ex:Nat→Prop)(kl:List (List UInt8))(ds:List (DataW Unit))(R:Except (Int×Int) ((List (List UInt8)×List (Lit×DataW Unit))×Nat))(x:Int×Int)(h1:qaz bs l i=false)(hE:R=.error x)(h2:qaI bs l i 9=x):Calls prog 205 #[.agg (inA bs fm d l),.agg (thA 7 0 ⟨#[]⟩ (.slice ka kn kc) (.slice ua un uc)),.int .i64 i,.int .i64 dp] W (qek k bs lim W b (.slice ka kn kc) (.slice ua un uc) ex kl ds R):=by
 have cH1:=qap fm d h1
 have cB1:=qcz fm d h2
 have HE:Hid (R=.error x):=hE
 have HX:Hid (qcB W (inA bs fm d l) (thA 7 0 ⟨#[]⟩ (.slice ka kn kc) (.slice ua un uc)) ((((W.alloc (.cells #[.string ⟨bs.toArray⟩,.int .i64 fm,.int .i64 d,.int .i64 l] 143)).alloc (.cells #[.int .i64 7,.int .i64 0,.string ⟨#[]⟩,.slice ka kn kc,.slice ua un uc] 93)).alloc (.cells #[.int .i64 0,.int .i64 0,.string ⟨#[]⟩,.slice none 0 0,.slice none 0 0] 93)).alloc (.cells #[.int .i64 0,.int .i64 0] 95))):=qeZ W _ _
 clear h1 h2 hE
 unfold inA thA
 go_enter func205,ntmps205
 go_wp2_with (first
  |(go_at_call 113;refine ck4 (cH1 _) HX.out.next (fun _ h=>h.box) ?_;clear cH1;intro w2 HX2 c0 c1 c2 c3;have k3:w2.cell? ⟨W.heap.size+1,3,none⟩=some (.slice ka kn kc):=qaa HX2.out.mv 3))
 refine rgn (S:=fun Z=>EnS W (inA bs fm d l) (thA 7 0 ⟨#[]⟩ (.slice ka kn kc) (.slice ua un uc)) Z) (HX2.out.drew.s) (by kernel_rfl) ?_
 intro hS
 refine tk 0 26 (.agg (thA 7 0 ⟨#[]⟩ (.slice ka kn kc) (.slice ua un uc))) rfl (by kernel_rfl) iQ3 (fun Z hZ=>yT 5 hZ.mv rfl rfl) hS ?_
 refine tk 1 27 (.agg #[.string ⟨bs.toArray⟩,.int .i64 fm,.int .i64 d,.int .i64 l]) rfl (by kernel_rfl) iQ3 (fun Z hZ=>yI 4 hZ.box rfl rfl) hS ?_
 refine tkk 2 28 (.int .i64 i) (by kernel_rfl) iQ3 hS ?_
 refine rdH 3 rfl (by kernel_rfl) (fun K hK => ?_)
 go_simp
 refine(cB1 _).mono ?_
 rintro e w9 ⟨rfl,hB9⟩
 simp only[]
 have HX9:=qac (HX2.out.drew.next hB9)
 have hS9:=HX9.out.s
 refine hK.out _ _ hS9 (fun _ => ?_)
 clear hK
 have hT9:=hS9.set (W.heap.size+2) (thA 7 0 ⟨#[]⟩ (.slice ka kn kc) (.slice ua un uc)) (Nat.le_refl _)
 refine sTh 4 8 26 (W.heap.size+2) (thA 7 0 ⟨#[]⟩ (.slice ka kn kc) (.slice ua un uc)) (by kernel_rfl) (HX9.out.th) thg (hT9) ?_
 refine tkk 5 9 (.int .i64 0) (by kernel_rfl) iQ3 hT9 ?_
 refine sF 6 10 29 (W.heap.size+3) (x) (by kernel_rfl) (sx (by omega) HX9.out.flt) (hT9.set (W.heap.size+3) (qae (x)) (by omega)) ?_
 refine wpAnyH_done (by kernel_rfl) ?_ _
 go_simp
 go_wp2
 have hf:=HX9.out.fin (thA 7 0 ⟨#[]⟩ (.slice ka kn kc) (.slice ua un uc)) (x)
 refine eoT results205 hf (.int .i64 0) rfl rfl rfl rfl ⟨qcf hf.2.2 _ _,?_⟩
 exact⟨.error (x),.inl HE.out,_,_,_,_,_,_,_,_,_,_,rfl⟩
theorem qh9 (k:Nat)(W:World)(bs:List UInt8)(fm d l lim:Int)(i:Nat)(dp:Int)(b:Nat)(ka ua:Option Addr)(kn kc un uc:Nat)(ex:Nat→Prop)(kl:List (List UInt8))(ds:List (DataW Unit))(R:Except (Int×Int) ((List (List UInt8)×List (Lit×DataW Unit))×Nat))(x:Int×Int)(c:UInt8)(hc:bs[i]? = some c)(hv:¬c.toNat=34)(h1:qaz bs l i=true)(hE:R=.error x)(h2:qaI bs l i 9=x):Calls prog 205 #[.agg (inA bs fm d l),.agg (thA 7 0 ⟨#[]⟩ (.slice ka kn kc) (.slice ua un uc)),.int .i64 i,.int .i64 dp] W (qek k bs lim W b (.slice ka kn kc) (.slice ua un uc) ex kl ds R):=by
 have hix:=qah bs i c hc
 have hib:=ltL hc
 have t34:((c.toNat:Int) != 34)=true:=by simp;omega
 have cH1:=qap fm d h1
 have cB1:=qcz fm d h2
 have HE:Hid (R=.error x):=hE
 have HX:Hid (qcB W (inA bs fm d l) (thA 7 0 ⟨#[]⟩ (.slice ka kn kc) (.slice ua un uc)) ((((W.alloc (.cells #[.string ⟨bs.toArray⟩,.int .i64 fm,.int .i64 d,.int .i64 l] 143)).alloc (.cells #[.int .i64 7,.int .i64 0,.string ⟨#[]⟩,.slice ka kn kc,.slice ua un uc] 93)).alloc (.cells #[.int .i64 0,.int .i64 0,.string ⟨#[]⟩,.slice none 0 0,.slice none 0 0] 93)).alloc (.cells #[.int .i64 0,.int .i64 0] 95))):=qeZ W _ _
 clear h1 h2 hE hc hv
 unfold inA thA
 go_enter func205,ntmps205
 go_wp2_with (first
  |(go_at_call 113;refine ck4 (cH1 _) HX.out.next (fun _ h=>h.box) ?_;clear cH1;intro w2 HX2 c0 c1 c2 c3;have k3:w2.cell? ⟨W.heap.size+1,3,none⟩=some (.slice ka kn kc):=qaa HX2.out.mv 3))
 refine rgn (S:=fun Z=>EnS W (inA bs fm d l) (thA 7 0 ⟨#[]⟩ (.slice ka kn kc) (.slice ua un uc)) Z) (HX2.out.drew.s) (by kernel_rfl) ?_
 intro hS
 refine tk 0 26 (.agg (thA 7 0 ⟨#[]⟩ (.slice ka kn kc) (.slice ua un uc))) rfl (by kernel_rfl) iQ3 (fun Z hZ=>yT 5 hZ.mv rfl rfl) hS ?_
 refine tk 1 27 (.agg #[.string ⟨bs.toArray⟩,.int .i64 fm,.int .i64 d,.int .i64 l]) rfl (by kernel_rfl) iQ3 (fun Z hZ=>yI 4 hZ.box rfl rfl) hS ?_
 refine tkk 2 28 (.int .i64 i) (by kernel_rfl) iQ3 hS ?_
 refine rdH 3 rfl (by kernel_rfl) (fun K hK => ?_)
 go_simp
 refine(cB1 _).mono ?_
 rintro e w9 ⟨rfl,hB9⟩
 simp only[]
 have HX9:=qac (HX2.out.drew.next hB9)
 have hS9:=HX9.out.s
 refine hK.out _ _ hS9 (fun _ => ?_)
 clear hK
 have hT9:=hS9.set (W.heap.size+2) (thA 7 0 ⟨#[]⟩ (.slice ka kn kc) (.slice ua un uc)) (Nat.le_refl _)
 refine sTh 4 8 26 (W.heap.size+2) (thA 7 0 ⟨#[]⟩ (.slice ka kn kc) (.slice ua un uc)) (by kernel_rfl) (HX9.out.th) thg (hT9) ?_
 refine tkk 5 9 (.int .i64 0) (by kernel_rfl) iQ3 hT9 ?_
 refine sF 6 10 29 (W.heap.size+3) (x) (by kernel_rfl) (sx (by omega) HX9.out.flt) (hT9.set (W.heap.size+3) (qae (x)) (by omega)) ?_
 refine wpAnyH_done (by kernel_rfl) ?_ _
 go_simp
 go_wp2
 have hf:=HX9.out.fin (thA 7 0 ⟨#[]⟩ (.slice ka kn kc) (.slice ua un uc)) (x)
 refine eoT results205 hf (.int .i64 0) rfl rfl rfl rfl ⟨qcf hf.2.2 _ _,?_⟩
 exact⟨.error (x),.inl HE.out,_,_,_,_,_,_,_,_,_,_,rfl⟩
theorem qjP (k:Nat)(W:World)(bs:List UInt8)(fm d l lim:Int)(i:Nat)(dp:Int)(b:Nat)(ka ua:Option Addr)(kn kc un uc:Nat)(ex:Nat→Prop)(kl:List (List UInt8))(ds:List (DataW Unit))(R:Except (Int×Int) ((List (List UInt8)×List (Lit×DataW Unit))×Nat))(f:Int×Int)(c:UInt8)(hc:bs[i]? = some c)(hv:c.toNat=34)(h1:qaz bs l i=true)(hb:bs.length≤200000000)(hl:Lm bs l lim)(hi:InR bs lim (i+1))(hr:qbu bs lim (bs.length+1-(i+1)) (i+1) [] 0=.error f)(hE:R=.error f):Calls prog 205 #[.agg (inA bs fm d l),.agg (thA 7 0 ⟨#[]⟩ (.slice ka kn kc) (.slice ua un uc)),.int .i64 i,.int .i64 dp] W (qek k bs lim W b (.slice ka kn kc) (.slice ua un uc) ex kl ds R):=by
 have hix:=qah bs i c hc
 have hib:=ltL hc
 have t34:((c.toNat:Int) != 34)=false:=by rw[hv];rfl
 have cH1:=qap fm d h1
 have cQ:=fun V=>qce V bs fm d l lim i hl hi hb
 unfold inA at cQ
 rw[hr] at cQ
 have cQ1:=cQ
 dsimp only [inA,qlZ] at cQ1
 have HX:Hid (qcB W (inA bs fm d l) (thA 7 0 ⟨#[]⟩ (.slice ka kn kc) (.slice ua un uc)) ((((W.alloc (.cells #[.string ⟨bs.toArray⟩,.int .i64 fm,.int .i64 d,.int .i64 l] 143)).alloc (.cells #[.int .i64 7,.int .i64 0,.string ⟨#[]⟩,.slice ka kn kc,.slice ua un uc] 93)).alloc (.cells #[.int .i64 0,.int .i64 0,.string ⟨#[]⟩,.slice none 0 0,.slice none 0 0] 93)).alloc (.cells #[.int .i64 0,.int .i64 0] 95))):=qeZ W _ _
 have HE:Hid (R=.error f):=hE
 have hne:(f.1==0)=false:=by have:=qdn bs lim _ _ _ _ f.1 f.2 hr;simpa using this
 clear h1 hE hc hv hl hi hr cQ
 unfold inA thA
 go_enter func205,ntmps205
 go_wp2_with (first
  |(go_at_call 113;refine ck4 (cH1 _) HX.out.next (fun _ h=>h.box) ?_;clear cH1;intro w2 HX2 c0 c1 c2 c3;have k3:w2.cell? ⟨W.heap.size+1,3,none⟩=some (.slice ka kn kc):=qaa HX2.out.mv 3)
  |(go_at_call 171;refine ck (cQ1 _) HX2.out.next ?_;clear cQ1;intro w3 HX3)
  |((with_reducible refine zF 12 36 rfl rfl (w3.heap.size) (f) ?_ ?_);exact⟨rfl,rfl,qab w3 _⟩;refine nmd ?_;intro V4 EV4;have HX4:Hid (qcB W (inA bs fm d l) (thA 7 0 ⟨#[]⟩ (.slice ka kn kc) (.slice ua un uc)) V4):=EV4▸HX3.out.next (qal _ _);have HF4:Hid (V4.heap[w3.heap.size]? = some (.cells (qae (f)) 95)):=EV4▸setRow_heap _ _ _ _ _ _ (qab _ _);have HLT:Hid (W.heap.size+4≤w3.heap.size):=HX3.out.size;have HLV:Hid (w3.heap.size<V4.heap.size):=ltA HF4.out;clear EV4;generalize w3.heap.size=M at *;clear c0 c1 c2 c3 k3;obtain⟨c0,c1,c2,c3⟩:=qa3 HX4.out.box;have k3:V4.cell? ⟨W.heap.size+1,3,none⟩=some (.slice ka kn kc):=qaa HX4.out.mv 3;have u0:V4.cell? ⟨M,0,none⟩=some (.int .i64 (f.1)):=qaa HF4.out 0))
 refine rgn (S:=fun Z=>EnS W (inA bs fm d l) (thA 7 0 ⟨#[]⟩ (.slice ka kn kc) (.slice ua un uc)) Z∧Z.heap[M]? = some (.cells (qae (f)) 95)) (⟨HX4.out.drew.s,HF4.out⟩) (by kernel_rfl) ?_
 intro hS
 refine tk 0 40 (.agg (thA 7 0 ⟨#[]⟩ (.slice ka kn kc) (.slice ua un uc))) rfl (by kernel_rfl) iQ3 (fun Z hZ=>yT 5 hZ.1.mv rfl rfl) hS ?_
 refine tk 1 41 (.agg (qae (f))) rfl (by kernel_rfl) iQ3 (fun Z hZ=>yF 12 hZ.2 rfl rfl) hS ?_
 have hT9:=And.intro (hS.1.set (W.heap.size+2) (thA 7 0 ⟨#[]⟩ (.slice ka kn kc) (.slice ua un uc)) (Nat.le_refl _)) ((setRow_other _ (W.heap.size+2) M (thA 7 0 ⟨#[]⟩ (.slice ka kn kc) (.slice ua un uc)) (by have:=HLT.out;omega)).trans hS.2)
 refine sTh 2 8 40 (W.heap.size+2) (thA 7 0 ⟨#[]⟩ (.slice ka kn kc) (.slice ua un uc)) (by kernel_rfl) (HX4.out.drew.th) thg (hT9) ?_
 refine tkk 3 9 (.int .i64 0) (by kernel_rfl) iQ3 hT9 ?_
 refine sF 4 10 41 (W.heap.size+3) (f) (by kernel_rfl) (sx (by omega) HX4.out.drew.flt) (⟨hT9.1.set (W.heap.size+3) (qae (f)) (by omega),sx (by have:=HLT.out;omega) hT9.2⟩) ?_
 refine wpAnyH_done (by kernel_rfl) ?_ _
 go_simp
 go_wp2
 have hf:=HX4.out.drew.fin (thA 7 0 ⟨#[]⟩ (.slice ka kn kc) (.slice ua un uc)) (f)
 refine eoT results205 hf (.int .i64 0) rfl rfl rfl rfl ⟨qcf hf.2.2 _ _,?_⟩
 exact⟨.error (f),.inl HE.out,_,_,_,_,_,_,_,_,_,_,rfl⟩
theorem qil (k:Nat)(W:World)(bs:List UInt8)(fm d l lim:Int)(i:Nat)(dp:Int)(b:Nat)(ka ua:Option Addr)(kn kc un uc:Nat)(ex:Nat→Prop)(kl:List (List UInt8))(ds:List (DataW Unit))(R:Except (Int×Int) ((List (List UInt8)×List (Lit×DataW Unit))×Nat))(x:Int×Int)(c:UInt8)(hc:bs[i]? = some c)(hv:c.toNat=34)(h1:qaz bs l i=true)(hb:bs.length≤200000000)(hl:Lm bs l lim)(hi:InR bs lim (i+1))(hm:qdz k W b (.slice ka kn kc) (.slice ua un uc) ex kl ds)(hkl:kl.length≤200000000)(tt:List UInt8)(r:Nat)(hr:qbu bs lim (bs.length+1-(i+1)) (i+1) [] 0=.ok (tt,r))(hin:tt∈kl)(h2:qaI bs l (r-1) 12=x)(hr0:0<r)(hrl:r≤bs.length)(hE:R=.error x):Calls prog 205 #[.agg (inA bs fm d l),.agg (thA 7 0 ⟨#[]⟩ (.slice ka kn kc) (.slice ua un uc)),.int .i64 i,.int .i64 dp] W (qek k bs lim W b (.slice ka kn kc) (.slice ua un uc) ex kl ds R):=by
 have hix:=qah bs i c hc
 have hib:=ltL hc
 have t34:((c.toNat:Int) != 34)=false:=by rw[hv];rfl
 have cH1:=qap fm d h1
 have cQ:=fun V=>qce V bs fm d l lim i hl hi hb
 unfold inA at cQ
 rw[hr] at cQ
 have cQ1:=cQ
 dsimp only [inA,qlZ] at cQ1
 have cHo:∀V,qdz k V b (.slice ka kn kc) (.slice ua un uc) ex kl ds→Calls prog 210 #[.slice ka kn kc,.string ⟨tt.toArray⟩] V fun e W'=>e=.returned (.bool true)∧V=W':=fun V h=>by
  have h2:=qdo V (fun _=>True) _ kl tt (qbx h.keys _ (fun _ _ _=>trivial)) hkl
  rw[decide_eq_true hin] at h2
  exact h2.mono fun e W' h=>⟨h.1,h.2.symm⟩
 have HM:Hid (qdz k W b (.slice ka kn kc) (.slice ua un uc) ex kl ds):=hm
 have cB1:∀V,Calls prog 71 #[.agg #[.string ⟨bs.toArray⟩,.int .i64 fm,.int .i64 d,.int .i64 l],.int .i64 ((r:Int)-1),.int .i64 12] V fun e W'=>e=.returned (.agg (qae x))∧Below V.heap.size V W':=fun V=>by
  have h:=qaR V bs fm d l (r-1) 12
  rw[h2,show((r-1:Nat):Int)=(r:Int)-1 by omega] at h
  exact h
 have HE:Hid (R=.error x):=hE
 have HX:Hid (qcB W (inA bs fm d l) (thA 7 0 ⟨#[]⟩ (.slice ka kn kc) (.slice ua un uc)) ((((W.alloc (.cells #[.string ⟨bs.toArray⟩,.int .i64 fm,.int .i64 d,.int .i64 l] 143)).alloc (.cells #[.int .i64 7,.int .i64 0,.string ⟨#[]⟩,.slice ka kn kc,.slice ua un uc] 93)).alloc (.cells #[.int .i64 0,.int .i64 0,.string ⟨#[]⟩,.slice none 0 0,.slice none 0 0] 93)).alloc (.cells #[.int .i64 0,.int .i64 0] 95))):=qeZ W _ _
 clear h1 h2 hE hc hv hl hi hr cQ hin hm
 unfold inA thA
 go_enter func205,ntmps205
 go_wp2_with (first
  |(go_at_call 113;refine ck4 (cH1 _) HX.out.next (fun _ h=>h.box) ?_;clear cH1;intro w2 HX2 c0 c1 c2 c3;have k3:w2.cell? ⟨W.heap.size+1,3,none⟩=some (.slice ka kn kc):=qaa HX2.out.mv 3)
  |(go_at_call 171;refine ck (cQ1 _) HX2.out.next ?_;clear cQ1;intro w3 HX3)
  |(go_at_call 210;refine(cHo _ (HX4.out.map HM.out)).mono ?_;clear cHo;rintro e w5 ⟨rfl,rfl⟩)
  |((with_reducible refine zF 12 36 rfl rfl (w3.heap.size) (0,0) ?_ ?_);exact⟨rfl,rfl,qab w3 _⟩;refine nmd ?_;intro V4 EV4;have HX4:Hid (qcB W (inA bs fm d l) (thA 7 0 ⟨#[]⟩ (.slice ka kn kc) (.slice ua un uc)) V4):=EV4▸HX3.out.next (qal _ _);have HF4:Hid (V4.heap[w3.heap.size]? = some (.cells (qae (0,0)) 95)):=EV4▸setRow_heap _ _ _ _ _ _ (qab _ _);have HLT:Hid (W.heap.size+4≤w3.heap.size):=HX3.out.size;have HLV:Hid (w3.heap.size<V4.heap.size):=ltA HF4.out;clear EV4;generalize w3.heap.size=M at *;clear c0 c1 c2 c3 k3;obtain⟨c0,c1,c2,c3⟩:=qa3 HX4.out.box;have k3:V4.cell? ⟨W.heap.size+1,3,none⟩=some (.slice ka kn kc):=qaa HX4.out.mv 3;have u0:V4.cell? ⟨M,0,none⟩=some (.int .i64 (0)):=qaa HF4.out 0))
 refine rgn (S:=fun Z=>EnS W (inA bs fm d l) (thA 7 0 ⟨#[]⟩ (.slice ka kn kc) (.slice ua un uc)) Z) (HX4.out.drew.s) (by kernel_rfl) ?_
 intro hS
 refine tk 0 47 (.agg (thA 7 0 ⟨#[]⟩ (.slice ka kn kc) (.slice ua un uc))) rfl (by kernel_rfl) iQ3 (fun Z hZ=>yT 5 hZ.mv rfl rfl) hS ?_
 refine tk 1 48 (.agg #[.string ⟨bs.toArray⟩,.int .i64 fm,.int .i64 d,.int .i64 l]) rfl (by kernel_rfl) iQ3 (fun Z hZ=>yI 4 hZ.box rfl rfl) hS ?_
 refine tkk 2 49 (.int .i64 r) (by kernel_rfl) iQ3 hS ?_
 refine tk 3 50 (.int .i64 ((r:Int)-1)) rfl (by kernel_rfl) iQ3 (fun Z hZ => ?y3) hS ?_
 case y3=>(go_simp;exact qdL _ (by omega))
 refine rdH 4 rfl (by kernel_rfl) (fun K hK => ?_)
 go_simp
 refine(cB1 _).mono ?_
 rintro e w9 ⟨rfl,hB9⟩
 simp only[]
 have HX9:=qac (HX4.out.drew.next hB9)
 have hS9:=HX9.out.s
 refine hK.out _ _ hS9 (fun _ => ?_)
 clear hK
 have hT9:=hS9.set (W.heap.size+2) (thA 7 0 ⟨#[]⟩ (.slice ka kn kc) (.slice ua un uc)) (Nat.le_refl _)
 refine sTh 5 8 47 (W.heap.size+2) (thA 7 0 ⟨#[]⟩ (.slice ka kn kc) (.slice ua un uc)) (by kernel_rfl) (HX9.out.th) thg (hT9) ?_
 refine tkk 6 9 (.int .i64 0) (by kernel_rfl) iQ3 hT9 ?_
 refine sF 7 10 51 (W.heap.size+3) (x) (by kernel_rfl) (sx (by omega) HX9.out.flt) (hT9.set (W.heap.size+3) (qae (x)) (by omega)) ?_
 refine wpAnyH_done (by kernel_rfl) ?_ _
 go_simp
 go_wp2
 have hf:=HX9.out.fin (thA 7 0 ⟨#[]⟩ (.slice ka kn kc) (.slice ua un uc)) (x)
 refine eoT results205 hf (.int .i64 0) rfl rfl rfl rfl ⟨qcf hf.2.2 _ _,?_⟩
 exact⟨.error (x),.inl HE.out,_,_,_,_,_,_,_,_,_,_,rfl⟩
theorem qjA (k:Nat)(W:World)(bs:List UInt8)(fm d l lim:Int)(i:Nat)(dp:Int)(b:Nat)(ka ua:Option Addr)(kn kc un uc:Nat)(ex:Nat→Prop)(kl:List (List UInt8))(ds:List (DataW Unit))(R:Except (Int×Int) ((List (List UInt8)×List (Lit×DataW Unit))×Nat))(f:Int×Int)(c:UInt8)(hc:bs[i]? = some c)(hv:c.toNat=34)(h1:qaz bs l i=true)(hb:bs.length≤200000000)(hl:Lm bs l lim)(hi:InR bs lim (i+1))(hm:qdz k W b (.slice ka kn kc) (.slice ua un uc) ex kl ds)(hkl:kl.length≤200000000)(tt:List UInt8)(r:Nat)(hr:qbu bs lim (bs.length+1-(i+1)) (i+1) [] 0=.ok (tt,r))(hin:¬tt∈kl)(hrl:r≤bs.length)(q2:Nat)(hq2:skR bs l (bs.length+1-r) r=q2)(hq2i:InR bs lim q2)(hrest:qaw bs lim [58] q2=.error f)(hE:R=.error f):Calls prog 205 #[.agg (inA bs fm d l),.agg (thA 7 0 ⟨#[]⟩ (.slice ka kn kc) (.slice ua un uc)),.int .i64 i,.int .i64 dp] W (qek k bs lim W b (.slice ka kn kc) (.slice ua un uc) ex kl ds R):=by
 have hix:=qah bs i c hc
 have hib:=ltL hc
 have t34:((c.toNat:Int) != 34)=false:=by rw[hv];rfl
 have cH1:=qap fm d h1
 have cQ:=fun V=>qce V bs fm d l lim i hl hi hb
 unfold inA at cQ
 rw[hr] at cQ
 have cQ1:=cQ
 dsimp only [inA,qlZ] at cQ1
 have cHo:∀V,qdz k V b (.slice ka kn kc) (.slice ua un uc) ex kl ds→Calls prog 210 #[.slice ka kn kc,.string ⟨tt.toArray⟩] V fun e W'=>e=.returned (.bool false)∧V=W':=fun V h=>by
  have h2:=qdo V (fun _=>True) _ kl tt (qbx h.keys _ (fun _ _ _=>trivial)) hkl
  rw[decide_eq_false hin] at h2
  exact h2.mono fun e W' h=>⟨h.1,h.2.symm⟩
 have HM:Hid (qdz k W b (.slice ka kn kc) (.slice ua un uc) ex kl ds):=hm
 have cS1:∀V,Calls prog 69 #[.agg #[.string ⟨bs.toArray⟩,.int .i64 fm,.int .i64 d,.int .i64 l],.int .i64 r] V fun e W'=>e=.returned (.int .i64 q2)∧Below V.heap.size V W':=fun V=>by
  have h:=qdv V bs fm d l r hb hrl
  rw[hq2] at h
  exact h
 have cW:∀V,Calls prog 170 #[.agg #[.string ⟨bs.toArray⟩,.int .i64 fm,.int .i64 d,.int .i64 l],.int .i64 q2,.string ⟨#[58]⟩] V fun e W'=>e=.returned (qhH (qaw bs lim [58] q2))∧Below V.heap.size V W':=fun V=>qb6 V bs fm d l lim q2 [58] (by decide) hl hq2i hb
 rw[hrest] at cW
 have cW1:=cW
 dsimp only [inA,qhH] at cW1
 have HX:Hid (qcB W (inA bs fm d l) (thA 7 0 ⟨#[]⟩ (.slice ka kn kc) (.slice ua un uc)) ((((W.alloc (.cells #[.string ⟨bs.toArray⟩,.int .i64 fm,.int .i64 d,.int .i64 l] 143)).alloc (.cells #[.int .i64 7,.int .i64 0,.string ⟨#[]⟩,.slice ka kn kc,.slice ua un uc] 93)).alloc (.cells #[.int .i64 0,.int .i64 0,.string ⟨#[]⟩,.slice none 0 0,.slice none 0 0] 93)).alloc (.cells #[.int .i64 0,.int .i64 0] 95))):=qeZ W _ _
 have HE:Hid (R=.error f):=hE
 have hne:(f.1==0)=false:=by have:=qbw bs lim _ _ f.1 f.2 hrest;simpa using this
 clear h1 hE hc hv hl hi hr cQ hin hm hq2 hq2i hrest cW
 unfold inA thA
 go_enter func205,ntmps205
 go_wp2_with (first
  |(go_at_call 113;refine ck4 (cH1 _) HX.out.next (fun _ h=>h.box) ?_;clear cH1;intro w2 HX2 c0 c1 c2 c3;have k3:w2.cell? ⟨W.heap.size+1,3,none⟩=some (.slice ka kn kc):=qaa HX2.out.mv 3)
  |(go_at_call 171;refine ck (cQ1 _) HX2.out.next ?_;clear cQ1;intro w3 HX3)
  |(go_at_call 210;refine(cHo _ (HX4.out.map HM.out)).mono ?_;clear cHo;rintro e w5 ⟨rfl,rfl⟩)
  |((with_reducible refine zF 12 36 rfl rfl (w3.heap.size) (0,0) ?_ ?_);exact⟨rfl,rfl,qab w3 _⟩;refine nmd ?_;intro V4 EV4;have HX4:Hid (qcB W (inA bs fm d l) (thA 7 0 ⟨#[]⟩ (.slice ka kn kc) (.slice ua un uc)) V4):=EV4▸HX3.out.next (qal _ _);have HF4:Hid (V4.heap[w3.heap.size]? = some (.cells (qae (0,0)) 95)):=EV4▸setRow_heap _ _ _ _ _ _ (qab _ _);have HLT:Hid (W.heap.size+4≤w3.heap.size):=HX3.out.size;have HLV:Hid (w3.heap.size<V4.heap.size):=ltA HF4.out;clear EV4;generalize w3.heap.size=M at *;clear c0 c1 c2 c3 k3;obtain⟨c0,c1,c2,c3⟩:=qa3 HX4.out.box;have k3:V4.cell? ⟨W.heap.size+1,3,none⟩=some (.slice ka kn kc):=qaa HX4.out.mv 3;have u0:V4.cell? ⟨M,0,none⟩=some (.int .i64 (0)):=qaa HF4.out 0))
 refine rgn (S:=fun Z=>EnS W (inA bs fm d l) (thA 7 0 ⟨#[]⟩ (.slice ka kn kc) (.slice ua un uc)) Z) (HX4.out.drew.s) (by kernel_rfl) ?_
 intro hS
 refine tk 0 53 (.agg #[.string ⟨bs.toArray⟩,.int .i64 fm,.int .i64 d,.int .i64 l]) rfl (by kernel_rfl) iQ3 (fun Z hZ=>yI 4 hZ.box rfl rfl) hS ?_
 refine tk 1 54 (.agg #[.string ⟨bs.toArray⟩,.int .i64 fm,.int .i64 d,.int .i64 l]) rfl (by kernel_rfl) iQ3 (fun Z hZ=>yI 4 hZ.box rfl rfl) hS ?_
 refine tkk 2 55 (.int .i64 r) (by kernel_rfl) iQ3 hS ?_
 refine rdH 3 rfl (by kernel_rfl) (fun K hK => ?_)
 go_simp
 refine(cS1 _).mono ?_
 rintro e w5 ⟨rfl,hB5⟩
 simp only[]
 have HX5:=qac (HX4.out.drew.next hB5)
 have HF5:Hid (w5.heap[M]? = some (.cells (qae (0,0)) 95)):=(hB5.block _ HLV.out).trans HF4.out
 have hS5:=HX5.out.s
 refine hK.out _ _ hS5 (fun _ => ?_)
 clear hK
 refine rdH 4 rfl (by kernel_rfl) (fun K hK => ?_)
 go_simp
 refine(cW1 _).mono ?_
 rintro e w6 ⟨rfl,hB6⟩
 simp only[]
 have HX6:=qac (HX5.out.next hB6)
 have HF6:Hid (w6.heap[M]? = some (.cells (qae (0,0)) 95)):=(hB6.block _ (ltA HF5.out)).trans HF5.out
 have hS6:=HX6.out.s
 refine hK.out _ _ hS6 (fun _ => ?_)
 clear hK
 refine tkk 5 52 (.tuple #[.int .i64 0,.agg (qae (f))]) (by kernel_rfl) iQ3 hS6 ?_
 refine tkk 6 58 (.int .i64 0) (by kernel_rfl) iQ3 hS6 ?_
 refine tkk 7 59 (.agg (qae (f))) (by kernel_rfl) iQ3 hS6 ?_
 refine tkk 8 2 (.int .i64 0) (by kernel_rfl) iQ3 hS6 ?_
 refine sF 9 12 59 (M) (f) (by kernel_rfl) (HF6.out) (hS6.set M (qae (f)) (by have:=HLT.out;omega)) ?_
 refine wpAnyH_done (by kernel_rfl) ?_ _
 go_simp
 have HX7:Hid (qcB W (inA bs fm d l) (thA 7 0 ⟨#[]⟩ (.slice ka kn kc) (.slice ua un uc)) (w6.setRow M (qae (f)))):=HX6.out.set _ _ HLT.out
 have HF7:Hid ((w6.setRow M (qae (f))).heap[M]? = some (.cells (qae (f)) 95)):=setRow_heap _ _ _ _ _ _ HF6.out
 have HLV7:Hid (M<(w6.setRow M (qae (f))).heap.size):=ltA HF7.out
 generalize w6.setRow M (qae (f))=V7 at *
 clear c0 c1 c2 c3 k3 u0 hS5 hS6 hS HX4 HX5 HX6 HF4 HF5 HF6 HLV hB5 hB6
 have u0:V7.cell? ⟨M,0,none⟩=some (.int .i64 (f.1)):=qaa HF7.out 0
 go_wp2
 refine rgn (S:=fun Z=>EnS W (inA bs fm d l) (thA 7 0 ⟨#[]⟩ (.slice ka kn kc) (.slice ua un uc)) Z∧Z.heap[M]? = some (.cells (qae (f)) 95)) (⟨HX7.out.drew.s,HF7.out⟩) (by kernel_rfl) ?_
 intro hS
 refine tk 0 63 (.agg (thA 7 0 ⟨#[]⟩ (.slice ka kn kc) (.slice ua un uc))) rfl (by kernel_rfl) iQ3 (fun Z hZ=>yT 5 hZ.1.mv rfl rfl) hS ?_
 refine tk 1 64 (.agg (qae (f))) rfl (by kernel_rfl) iQ3 (fun Z hZ=>yF 12 hZ.2 rfl rfl) hS ?_
 have hT9:=And.intro (hS.1.set (W.heap.size+2) (thA 7 0 ⟨#[]⟩ (.slice ka kn kc) (.slice ua un uc)) (Nat.le_refl _)) ((setRow_other _ (W.heap.size+2) M (thA 7 0 ⟨#[]⟩ (.slice ka kn kc) (.slice ua un uc)) (by have:=HLT.out;omega)).trans hS.2)
 refine sTh 2 8 63 (W.heap.size+2) (thA 7 0 ⟨#[]⟩ (.slice ka kn kc) (.slice ua un uc)) (by kernel_rfl) (HX7.out.drew.th) thg (hT9) ?_
 refine tkk 3 9 (.int .i64 0) (by kernel_rfl) iQ3 hT9 ?_
 refine sF 4 10 64 (W.heap.size+3) (f) (by kernel_rfl) (sx (by omega) HX7.out.drew.flt) (⟨hT9.1.set (W.heap.size+3) (qae (f)) (by omega),sx (by have:=HLT.out;omega) hT9.2⟩) ?_
 refine wpAnyH_done (by kernel_rfl) ?_ _
 go_simp
 go_wp2
 have hf:=HX7.out.drew.fin (thA 7 0 ⟨#[]⟩ (.slice ka kn kc) (.slice ua un uc)) (f)
 refine eoT results205 hf (.int .i64 0) rfl rfl rfl rfl ⟨qcf hf.2.2 _ _,?_⟩
 exact⟨.error (f),.inl HE.out,_,_,_,_,_,_,_,_,_,_,rfl⟩
end
end Go.Proofs.YtllcbnfmihfaaaaGreatDoor
