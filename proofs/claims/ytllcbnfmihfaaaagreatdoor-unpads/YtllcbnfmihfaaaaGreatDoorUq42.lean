import Derived.Test.YtllcbnfmihfaaaaGreatDoorUq41
set_option maxRecDepth 100000
set_option maxHeartbeats 8000000
namespace Go.Proofs.YtllcbnfmihfaaaaGreatDoor
open Go.Proofs.Tryz
section
open Go.RowKit Go.Lib
theorem Tryz.infoStrR:(prog.info? 9).map (fun i=>(i.zero,i.size,i.bytes))=some (some (.string ByteArray.empty),1,16):=by kernel_rfl
theorem qld (l:ByteArray):∀u∈[Value.string l],u.oneCell'=true:=fun u hu=>by
 simp at hu
 subst hu
 rfl
theorem qbl {V w5:World}{o:Obj}{x:Option Nat}(hg:(V.alloc o).grownBy w5 x){j:Nat}(hj:j<V.heap.size)(hx:some j≠x):w5.heap[j]? = V.heap[j]?:=(hg.block j (by simp;omega) hx).trans (Below.heap_alloc _ _ _ hj)
theorem qiq (k:Nat)(W:World)(bs:List UInt8)(fm d l lim:Int)(i:Nat)(dp:Int)(b:Nat)(ka ua:Option Addr)(kn kc un uc:Nat)(ex:Nat→Prop)(kl:List (List UInt8))(ds:List (DataW Unit))(R:Except (Int×Int) ((List (List UInt8)×List (Lit×DataW Unit))×Nat))(c:UInt8)(hc:bs[i]? = some c)(hv:c.toNat=34)(h1:qaz bs l i=true)(hb:bs.length≤200000000)(hl:Lm bs l lim)(hi:InR bs lim (i+1))(hm:qdz k W b (.slice ka kn kc) (.slice ua un uc) ex kl ds)(hkl:kl.length≤200000000)(tt:List UInt8)(r:Nat)(hr:qbu bs lim (bs.length+1-(i+1)) (i+1) [] 0=.ok (tt,r))(hin:¬tt∈kl)(hrl:r≤bs.length)(q2:Nat)(hq2:skR bs l (bs.length+1-r) r=q2)(hq2i:InR bs lim q2)(rd:Nat→Except (Int×Int) (DataW Unit×Nat))(hbw:b≤W.heap.size)(hex:∀j,ex j→j<W.heap.size)(hd0:0≤dp)(hd1:dp≤100000)(p3 p4:Nat)(hrest:qaw bs lim [58] q2=.ok ((),p3))(hp3l:p3≤bs.length)(hp4:skR bs l (bs.length+1-p3) p3=p4)(hp4i:InR bs lim p4)(hRL:∀r',qaZ bs lim (rd p4) r'→qaZ bs lim R (qmb kl ds tt r'))(cJ:∀V (p:Nat),InR bs lim p→Calls prog 115 #[.agg (inA bs fm d l),.int .i64 p,.int .i64 (dp+1)] V (qa5 k bs lim V (rd p))):Calls prog 205 #[.agg (inA bs fm d l),.agg (thA 7 0 ⟨#[]⟩ (.slice ka kn kc) (.slice ua un uc)),.int .i64 i,.int .i64 dp] W (qek k bs lim W b (.slice ka kn kc) (.slice ua un uc) ex kl ds R):=by
 obtain⟨si,hsi,hs0,hs1,hs2⟩:=info_parts Tryz.infoStrR
 obtain⟨ti,hti,ht0,ht1,ht2⟩:=info_parts Tryz.infoThR
 have HCJ:Hid (∀V (p:Nat),InR bs lim p→Calls prog 115 #[.agg #[.string ⟨bs.toArray⟩,.int .i64 fm,.int .i64 d,.int .i64 l],.int .i64 p,.int .i64 (dp+1)] V (qa5 k bs lim V (rd p))):=cJ
 have HP4:Hid (InR bs lim p4):=hp4i
 have HRL:Hid (∀r',qaZ bs lim (rd p4) r'→qaZ bs lim R (qmb kl ds tt r')):=hRL
 have HBW:Hid (b≤W.heap.size):=hbw
 have HEX:Hid (∀j,ex j→j<W.heap.size):=hex
 obtain⟨xs,hur,huc⟩:=hm.kids
 have HUR:Hid (W.ownsRow b 93 5 (.slice ua un uc) ds.length xs):=hur
 have HUC:Hid (∀(i:Nat) (d:DataW Unit),ds[i]? = some d→∃a,qh2 xs i a∧qbD k W (fun j=>b≤j∧j<W.heap.size∧some j≠(Value.slice ua un uc).ownBlock∧¬(some j=(Value.slice ka kn kc).ownBlock∨ex j)) (.agg a) d):=huc
 have hix:=qah bs i c hc
 have hib:=ltL hc
 have t34:((c.toNat:Int) != 34)=false:=by rw[hv];rfl
 have cH1:=qap fm d h1
 have cQ:=fun V=>qce V bs fm d l lim i hl hi hb
 unfold inA at cQ
 rw[hr] at cQ
 have cQ1:=cQ
 dsimp only [inA,qlZ] at cQ1
 have cHo:∀V,qdz k V b (.slice ka kn kc) (.slice ua un uc) ex kl ds→Calls prog 210 #[.slice ka kn kc,.string ⟨tt.toArray⟩] V fun e W'=>e=.returned (.bool false)∧V=W':=fun V h=>by
  have h2:=qdo V (fun _=>True) _ kl tt (qbx h.keys _ (fun _ _ _=>trivial)) hkl
  rw[decide_eq_false hin] at h2
  exact h2.mono fun e W' h=>⟨h.1,h.2.symm⟩
 have HM:Hid (qdz k W b (.slice ka kn kc) (.slice ua un uc) ex kl ds):=hm
 have cS1:∀V,Calls prog 69 #[.agg #[.string ⟨bs.toArray⟩,.int .i64 fm,.int .i64 d,.int .i64 l],.int .i64 r] V fun e W'=>e=.returned (.int .i64 q2)∧Below V.heap.size V W':=fun V=>by
  have h:=qdv V bs fm d l r hb hrl
  rw[hq2] at h
  exact h
 have cW:∀V,Calls prog 170 #[.agg #[.string ⟨bs.toArray⟩,.int .i64 fm,.int .i64 d,.int .i64 l],.int .i64 q2,.string ⟨#[58]⟩] V fun e W'=>e=.returned (qhH (qaw bs lim [58] q2))∧Below V.heap.size V W':=fun V=>qb6 V bs fm d l lim q2 [58] (by decide) hl hq2i hb
 rw[hrest] at cW
 have cW1:=cW
 dsimp only [inA,qhH] at cW1
 have cS2:∀V,Calls prog 69 #[.agg #[.string ⟨bs.toArray⟩,.int .i64 fm,.int .i64 d,.int .i64 l],.int .i64 p3] V fun e W'=>e=.returned (.int .i64 p4)∧Below V.heap.size V W':=fun V=>by
  have h:=qdv V bs fm d l p3 hb hp3l
  rw[hp4] at h
  exact h
 have HX:Hid (qcB W (inA bs fm d l) (thA 7 0 ⟨#[]⟩ (.slice ka kn kc) (.slice ua un uc)) ((((W.alloc (.cells #[.string ⟨bs.toArray⟩,.int .i64 fm,.int .i64 d,.int .i64 l] 143)).alloc (.cells #[.int .i64 7,.int .i64 0,.string ⟨#[]⟩,.slice ka kn kc,.slice ua un uc] 93)).alloc (.cells #[.int .i64 0,.int .i64 0,.string ⟨#[]⟩,.slice none 0 0,.slice none 0 0] 93)).alloc (.cells #[.int .i64 0,.int .i64 0] 95))):=qeZ W _ _
 clear h1 hc hv hl hi hr cQ hin hm hq2 hq2i hrest cW hp4 hp4i hRL cJ hbw hex hur huc
 unfold inA thA
 go_enter func205,ntmps205
 go_wp2_with (first
  |(go_at_call 113;refine ck4 (cH1 _) HX.out.next (fun _ h=>h.box) ?_;clear cH1;intro w2 HX2 c0 c1 c2 c3;have k3:w2.cell? ⟨W.heap.size+1,3,none⟩=some (.slice ka kn kc):=qaa HX2.out.mv 3)
  |(go_at_call 171;refine ck (cQ1 _) HX2.out.next ?_;clear cQ1;intro w3 HX3)
  |(go_at_call 210;refine(cHo _ (HX4.out.map HM.out)).mono ?_;clear cHo;rintro e w5 ⟨rfl,rfl⟩)
  |((with_reducible refine zF 12 36 rfl rfl (w3.heap.size) (0,0) ?_ ?_);exact⟨rfl,rfl,qab w3 _⟩;refine nmd ?_;intro V4 EV4;have HX4:Hid (qcB W (inA bs fm d l) (thA 7 0 ⟨#[]⟩ (.slice ka kn kc) (.slice ua un uc)) V4):=EV4▸HX3.out.next (qal _ _);have HF4:Hid (V4.heap[w3.heap.size]? = some (.cells (qae (0,0)) 95)):=EV4▸setRow_heap _ _ _ _ _ _ (qab _ _);have HLT:Hid (W.heap.size+4≤w3.heap.size):=HX3.out.size;have HLV:Hid (w3.heap.size<V4.heap.size):=ltA HF4.out;clear EV4;generalize w3.heap.size=M at *;clear c0 c1 c2 c3 k3;obtain⟨c0,c1,c2,c3⟩:=qa3 HX4.out.box;have k3:V4.cell? ⟨W.heap.size+1,3,none⟩=some (.slice ka kn kc):=qaa HX4.out.mv 3;have u0:V4.cell? ⟨M,0,none⟩=some (.int .i64 (0)):=qaa HF4.out 0))
 refine rgn (S:=fun Z=>EnS W (inA bs fm d l) (thA 7 0 ⟨#[]⟩ (.slice ka kn kc) (.slice ua un uc)) Z) (HX4.out.drew.s) (by kernel_rfl) ?_
 intro hS
 refine tk 0 53 (.agg #[.string ⟨bs.toArray⟩,.int .i64 fm,.int .i64 d,.int .i64 l]) rfl (by kernel_rfl) iQ3 (fun Z hZ=>yI 4 hZ.box rfl rfl) hS ?_
 refine tk 1 54 (.agg #[.string ⟨bs.toArray⟩,.int .i64 fm,.int .i64 d,.int .i64 l]) rfl (by kernel_rfl) iQ3 (fun Z hZ=>yI 4 hZ.box rfl rfl) hS ?_
 refine tkk 2 55 (.int .i64 r) (by kernel_rfl) iQ3 hS ?_
 refine rdH 3 rfl (by kernel_rfl) (fun K hK => ?_)
 go_simp
 refine(cS1 _).mono ?_
 rintro e w5 ⟨rfl,hB5⟩
 simp only[]
 have HX5:=qac (HX4.out.drew.next hB5)
 have HF5:Hid (w5.heap[M]? = some (.cells (qae (0,0)) 95)):=(hB5.block _ HLV.out).trans HF4.out
 have hS5:=HX5.out.s
 refine hK.out _ _ hS5 (fun _ => ?_)
 clear hK
 refine rdH 4 rfl (by kernel_rfl) (fun K hK => ?_)
 go_simp
 refine(cW1 _).mono ?_
 rintro e w6 ⟨rfl,hB6⟩
 simp only[]
 have HX6:=qac (HX5.out.next hB6)
 have HF6:Hid (w6.heap[M]? = some (.cells (qae (0,0)) 95)):=(hB6.block _ (ltA HF5.out)).trans HF5.out
 have hS6:=HX6.out.s
 refine hK.out _ _ hS6 (fun _ => ?_)
 clear hK
 refine tkk 5 52 (.tuple #[.int .i64 p3,.agg (qae (0,0))]) (by kernel_rfl) iQ3 hS6 ?_
 refine tkk 6 58 (.int .i64 p3) (by kernel_rfl) iQ3 hS6 ?_
 refine tkk 7 59 (.agg (qae (0,0))) (by kernel_rfl) iQ3 hS6 ?_
 refine tkk 8 2 (.int .i64 p3) (by kernel_rfl) iQ3 hS6 ?_
 refine sF 9 12 59 (M) (0,0) (by kernel_rfl) (HF6.out) (hS6.set M (qae (0,0)) (by have:=HLT.out;omega)) ?_
 refine wpAnyH_done (by kernel_rfl) ?_ _
 go_simp
 have HX7:Hid (qcB W (inA bs fm d l) (thA 7 0 ⟨#[]⟩ (.slice ka kn kc) (.slice ua un uc)) (w6.setRow M (qae (0,0)))):=HX6.out.set _ _ HLT.out
 have HF7:Hid ((w6.setRow M (qae (0,0))).heap[M]? = some (.cells (qae (0,0)) 95)):=setRow_heap _ _ _ _ _ _ HF6.out
 have HLV7:Hid (M<(w6.setRow M (qae (0,0))).heap.size):=ltA HF7.out
 generalize w6.setRow M (qae (0,0))=V7 at *
 clear c0 c1 c2 c3 k3 u0 hS5 hS6 hS HX4 HX5 HX6 HF4 HF5 HF6 HLV hB5 hB6
 have u0:V7.cell? ⟨M,0,none⟩=some (.int .i64 (0)):=qaa HF7.out 0
 go_wp2
 refine rgn (S:=fun Z=>EnS W (inA bs fm d l) (thA 7 0 ⟨#[]⟩ (.slice ka kn kc) (.slice ua un uc)) Z) (HX7.out.drew.s) (by kernel_rfl) ?_
 intro hS
 refine tk 0 66 (.agg #[.string ⟨bs.toArray⟩,.int .i64 fm,.int .i64 d,.int .i64 l]) rfl (by kernel_rfl) iQ3 (fun Z hZ=>yI 4 hZ.box rfl rfl) hS ?_
 refine tk 1 67 (.agg #[.string ⟨bs.toArray⟩,.int .i64 fm,.int .i64 d,.int .i64 l]) rfl (by kernel_rfl) iQ3 (fun Z hZ=>yI 4 hZ.box rfl rfl) hS ?_
 refine tkk 2 68 (.int .i64 p3) (by kernel_rfl) iQ3 hS ?_
 refine tkk 4 70 (.int .i64 dp) (by kernel_rfl) iQ3 hS ?_
 refine tk 5 71 (.int .i64 (dp+1)) rfl (by kernel_rfl) iQ3 (fun Z hZ => ?y5) hS ?_
 case y5=>(go_simp;exact qdL _ (by omega))
 refine qmT 3 11 rfl rfl (by kernel_rfl) (fun K hK => ?_) (fun K hK => ?_)
 focus
  go_simp
  refine(cS2 _).mono ?_
  rintro e w8 ⟨rfl,hB8⟩
  simp only[]
  have HX8:=qac (HX7.out.drew.next hB8)
  have HF8:Hid (w8.heap[M]? = some (.cells (qae (0,0)) 95)):=(hB8.block _ (ltA (show V7.heap[M]? = _ from HF7.out))).trans HF7.out
  have hS8:=HX8.out.s
  refine hK.out _ _ hS8 (fun _ => ?_)
  clear hK
  refine qmT 6 11 rfl rfl (by kernel_rfl) (fun K hK => ?_) (fun K hK => ?_)
  focus
   go_simp
   refine(HCJ.out _ p4 HP4.out).mono ?_
   rintro e w9 hrd
   obtain⟨hBr,r',kd,nn,s,a1,i1,j1,b1,q1,m1,z,F,hlo,rfl,hA,hF⟩:=qck hrd
   simp only[]
   have HLO:Hid (qaZ bs lim (rd p4) r'):=hlo
   have HFE:Hid (∀f,r'=.error f→F=f):=hF
   have HX9:=qac (HX8.out.next hBr)
   have HF9:Hid (w9.heap[M]? = some (.cells (qae (0,0)) 95)):=(hBr.block _ (ltA (show w8.heap[M]? = _ from HF8.out))).trans HF8.out
   have HA9:Hid (∀dd q,r'=.ok (dd,q)→InR bs lim q∧z=(q:Int)∧F=(0,0)∧qbD k w9 (fun j=>w8.heap.size≤j∧j<w9.heap.size) (.agg (thA kd nn s (.slice a1 i1 j1) (.slice b1 q1 m1))) dd):=hA
   have HML:Hid (M<w8.heap.size):=ltA (show w8.heap[M]? = _ from HF8.out)
   clear hrd hlo hA hF hBr
   have hS9:=HX9.out.s
   refine hK.out _ _ hS9 (fun _ => ?_)
   clear hK
   refine tkk 7 65 (.tuple #[.agg (thA kd nn s (.slice a1 i1 j1) (.slice b1 q1 m1)),.int .i64 z,.agg (qae F)]) (by kernel_rfl) iQ3 hS9 ?_
   refine tkk 8 73 (.agg (thA kd nn s (.slice a1 i1 j1) (.slice b1 q1 m1))) (by kernel_rfl) iQ3 hS9 ?_
   refine tkk 9 74 (.int .i64 z) (by kernel_rfl) iQ3 hS9 ?_
   refine tkk 10 75 (.agg (qae F)) (by kernel_rfl) iQ3 hS9 ?_
   refine rdH 11 rfl (by kernel_rfl) (fun K hK => ?_)
   go_simp
   have HXe:Hid (qcB W (inA bs fm d l) (thA 7 0 ⟨#[]⟩ (.slice ka kn kc) (.slice ua un uc)) (w9.alloc (.cells th0 93))):=HX9.out.next bwA
   have HFe:Hid ((w9.alloc (.cells th0 93)).heap[M]? = some (.cells (qae (0,0)) 95)):=(Below.heap_alloc _ _ _ (ltA (show w9.heap[M]? = _ from HF9.out))).trans HF9.out
   have HTe:Hid ((w9.alloc (.cells th0 93)).heap[w9.heap.size]? = some (.cells th0 93)):=qab _ _
   have HTM:Hid (M<w9.heap.size):=ltA (show w9.heap[M]? = _ from HF9.out)
   have HAe:Hid (∀dd q,r'=.ok (dd,q)→InR bs lim q∧z=(q:Int)∧F=(0,0)∧qbD k (w9.alloc (.cells th0 93)) (fun j=>w8.heap.size≤j∧j<w9.heap.size) (.agg (thA kd nn s (.slice a1 i1 j1) (.slice b1 q1 m1))) dd):=fun dd q h=>⟨(HA9.out dd q h).1,(HA9.out dd q h).2.1,(HA9.out dd q h).2.2.1,(HA9.out dd q h).2.2.2.same (fun _ h=>h) (fun j hj=>Below.heap_alloc _ _ _ hj.2)⟩
   have HTS:Hid (w9.heap.size<w8.heap.size∨w9.heap.size≤w9.heap.size):=.inr (Nat.le_refl _)
   have HSX:Hid (w9.heap.size≤(w9.alloc (.cells th0 93)).heap.size):=by show _≤_;simp
   have hSe:=HXe.out.s
   refine hK.out _ (w9.alloc (.cells th0 93)) hSe (fun _ => ?_)
   clear hK
   generalize w9.alloc (.cells th0 93)=X at *
   obtain⟨S,hSd⟩:∃S,S=w9.heap.size:=⟨_,rfl⟩
   rw[←hSd] at HAe HTS HSX
   generalize w9.heap.size=T at *
   clear HX9 HF9 HA9
   generalize w8.heap.size=L at *
  rotate_left
  focus
   go_simp
   have HXa:Hid (qcB W (inA bs fm d l) (thA 7 0 ⟨#[]⟩ (.slice ka kn kc) (.slice ua un uc)) (w8.alloc (.cells th0 93))):=HX8.out.next bwA
   have HFa:Hid ((w8.alloc (.cells th0 93)).heap[M]? = some (.cells (qae (0,0)) 95)):=(Below.heap_alloc _ _ _ (ltA (show w8.heap[M]? = _ from HF8.out))).trans HF8.out
   have HTa:Hid ((w8.alloc (.cells th0 93)).heap[w8.heap.size]? = some (.cells th0 93)):=qab _ _
   have HTM:Hid (M<w8.heap.size):=ltA (show w8.heap[M]? = _ from HF8.out)
   have hSa:=HXa.out.s
   refine hK.out _ (w8.alloc (.cells th0 93)) hSa (fun _ => ?_)
   clear hK
   generalize w8.alloc (.cells th0 93)=Va at *
   generalize w8.heap.size=T at *
   refine rdH 6 rfl (by kernel_rfl) (fun K hK => ?_)
   go_simp
   refine(HCJ.out _ p4 HP4.out).mono ?_
   rintro e X hrd
   obtain⟨hBr,r',kd,nn,s,a1,i1,j1,b1,q1,m1,z,F,hlo,rfl,hA,hF⟩:=qck hrd
   simp only[]
   have HLO:Hid (qaZ bs lim (rd p4) r'):=hlo
   have HFE:Hid (∀f,r'=.error f→F=f):=hF
   have HXe:=qac (HXa.out.next hBr)
   have HFe:Hid (X.heap[M]? = some (.cells (qae (0,0)) 95)):=(hBr.block _ (ltA (show Va.heap[M]? = _ from HFa.out))).trans HFa.out
   have HAe:Hid (∀dd q,r'=.ok (dd,q)→InR bs lim q∧z=(q:Int)∧F=(0,0)∧qbD k X (fun j=>Va.heap.size≤j∧j<X.heap.size) (.agg (thA kd nn s (.slice a1 i1 j1) (.slice b1 q1 m1))) dd):=hA
   have HML:Hid (M<Va.heap.size):=ltA (show Va.heap[M]? = _ from HFa.out)
   have HTe:Hid (X.heap[T]? = some (.cells th0 93)):=(hBr.block _ (ltA (show Va.heap[T]? = _ from HTa.out))).trans HTa.out
   have HTS:Hid (T<Va.heap.size∨X.heap.size≤T):=.inl (ltA (show Va.heap[T]? = _ from HTa.out))
   have HSX:Hid (X.heap.size≤X.heap.size):=Nat.le_refl _
   clear hrd hlo hA hF hBr
   have hSe:=HXe.out.s
   refine hK.out _ _ hSe (fun _ => ?_)
   clear hK
   obtain⟨S,hSd⟩:∃S,S=X.heap.size:=⟨_,rfl⟩
   rw[←hSd] at HAe HTS
   have HSX:Hid (S≤X.heap.size):=Nat.le_of_eq hSd
   generalize Va.heap.size=L at *
   refine tkk 7 65 (.tuple #[.agg (thA kd nn s (.slice a1 i1 j1) (.slice b1 q1 m1)),.int .i64 z,.agg (qae F)]) (by kernel_rfl) iQ3 hSe ?_
   refine tkk 8 73 (.agg (thA kd nn s (.slice a1 i1 j1) (.slice b1 q1 m1))) (by kernel_rfl) iQ3 hSe ?_
   refine tkk 9 74 (.int .i64 z) (by kernel_rfl) iQ3 hSe ?_
   refine tkk 10 75 (.agg (qae F)) (by kernel_rfl) iQ3 hSe ?_
 rotate_left 2
 focus
  go_simp
  have HXa:Hid (qcB W (inA bs fm d l) (thA 7 0 ⟨#[]⟩ (.slice ka kn kc) (.slice ua un uc)) (V7.drew.alloc (.cells th0 93))):=HX7.out.drew.next bwA
  have HFa:Hid ((V7.drew.alloc (.cells th0 93)).heap[M]? = some (.cells (qae (0,0)) 95)):=(Below.heap_alloc _ _ _ (ltA (show V7.drew.heap[M]? = _ from HF7.out))).trans HF7.out
  have HTa:Hid ((V7.drew.alloc (.cells th0 93)).heap[V7.heap.size]? = some (.cells th0 93)):=qab _ _
  have HTM:Hid (M<V7.heap.size):=ltA (show V7.drew.heap[M]? = _ from HF7.out)
  have hSa:=HXa.out.s
  refine hK.out _ (V7.drew.alloc (.cells th0 93)) hSa (fun _ => ?_)
  clear hK
  generalize V7.drew.alloc (.cells th0 93)=Va at *
  generalize V7.heap.size=T at *
  refine rdH 3 rfl (by kernel_rfl) (fun K hK => ?_)
  go_simp
  refine(cS2 _).mono ?_
  rintro e w8 ⟨rfl,hB8⟩
  simp only[]
  have HX8:=qac (HXa.out.next hB8)
  have HF8:Hid (w8.heap[M]? = some (.cells (qae (0,0)) 95)):=(hB8.block _ (ltA (show Va.heap[M]? = _ from HFa.out))).trans HFa.out
  have HT8:Hid (w8.heap[T]? = some (.cells th0 93)):=(hB8.block _ (ltA HTa.out)).trans HTa.out
  have hS8:=HX8.out.s
  refine hK.out _ _ hS8 (fun _ => ?_)
  clear hK
  refine rdH 6 rfl (by kernel_rfl) (fun K hK => ?_)
  go_simp
  refine(HCJ.out _ p4 HP4.out).mono ?_
  rintro e X hrd
  obtain⟨hBr,r',kd,nn,s,a1,i1,j1,b1,q1,m1,z,F,hlo,rfl,hA,hF⟩:=qck hrd
  simp only[]
  have HLO:Hid (qaZ bs lim (rd p4) r'):=hlo
  have HFE:Hid (∀f,r'=.error f→F=f):=hF
  have HXe:=qac (HX8.out.next hBr)
  have HFe:Hid (X.heap[M]? = some (.cells (qae (0,0)) 95)):=(hBr.block _ (ltA (show w8.heap[M]? = _ from HF8.out))).trans HF8.out
  have HAe:Hid (∀dd q,r'=.ok (dd,q)→InR bs lim q∧z=(q:Int)∧F=(0,0)∧qbD k X (fun j=>w8.heap.size≤j∧j<X.heap.size) (.agg (thA kd nn s (.slice a1 i1 j1) (.slice b1 q1 m1))) dd):=hA
  have HML:Hid (M<w8.heap.size):=ltA (show w8.heap[M]? = _ from HF8.out)
  have HTe:Hid (X.heap[T]? = some (.cells th0 93)):=(hBr.block _ (ltA (show w8.heap[T]? = _ from HT8.out))).trans HT8.out
  have HTS:Hid (T<w8.heap.size∨X.heap.size≤T):=.inl (ltA (show w8.heap[T]? = _ from HT8.out))
  have HSX:Hid (X.heap.size≤X.heap.size):=Nat.le_refl _
  clear hrd hlo hA hF hBr
  have hSe:=HXe.out.s
  refine hK.out _ _ hSe (fun _ => ?_)
  clear hK
  obtain⟨S,hSd⟩:∃S,S=X.heap.size:=⟨_,rfl⟩
  rw[←hSd] at HAe HTS
  have HSX:Hid (S≤X.heap.size):=Nat.le_of_eq hSd
  generalize w8.heap.size=L at *
  refine tkk 7 65 (.tuple #[.agg (thA kd nn s (.slice a1 i1 j1) (.slice b1 q1 m1)),.int .i64 z,.agg (qae F)]) (by kernel_rfl) iQ3 hSe ?_
  refine tkk 8 73 (.agg (thA kd nn s (.slice a1 i1 j1) (.slice b1 q1 m1))) (by kernel_rfl) iQ3 hSe ?_
  refine tkk 9 74 (.int .i64 z) (by kernel_rfl) iQ3 hSe ?_
  refine tkk 10 75 (.agg (qae F)) (by kernel_rfl) iQ3 hSe ?_
 all_goals
  have hTe:=hSe.set T (thA kd nn s (.slice a1 i1 j1) (.slice b1 q1 m1)) (by have:=HLT.out;have:=HTM.out;omega)
  refine sTh 12 14 73 (T) (thA kd nn s (.slice a1 i1 j1) (.slice b1 q1 m1)) (by kernel_rfl) (HTe.out) thg (hTe) ?_
  refine tkk 13 2 (.int .i64 z) (by kernel_rfl) iQ3 hTe ?_
  refine sF 14 12 75 (M) F (by kernel_rfl) (sx (by have:=HTM.out;omega) HFe.out) (hTe.set M (qae F) (by have:=HLT.out;omega)) ?_
  refine wpAnyH_done (by kernel_rfl) ?_ _
  go_simp
  have HX12:Hid (qcB W (inA bs fm d l) (thA 7 0 ⟨#[]⟩ (.slice ka kn kc) (.slice ua un uc)) ((X.setRow T (thA kd nn s (.slice a1 i1 j1) (.slice b1 q1 m1))).setRow M (qae F))):=(HXe.out.set T _ (by have:=HLT.out;have:=HTM.out;omega)).set M _ HLT.out
  have HT12:Hid (((X.setRow T (thA kd nn s (.slice a1 i1 j1) (.slice b1 q1 m1))).setRow M (qae F)).heap[T]? = some (.cells #[.int .i64 kd,.int .i64 nn,.string s,.slice a1 i1 j1,.slice b1 q1 m1] 93)):=sx (by have:=HTM.out;omega) (setRow_heap _ _ _ _ _ _ HTe.out)
  have HF12:Hid (((X.setRow T (thA kd nn s (.slice a1 i1 j1) (.slice b1 q1 m1))).setRow M (qae F)).heap[M]? = some (.cells (qae F) 95)):=setRow_heap _ _ _ _ _ _ (sx (by have:=HTM.out;omega) HFe.out)
  have HA12:Hid (∀dd q,r'=.ok (dd,q)→InR bs lim q∧z=(q:Int)∧F=(0,0)∧qbD k ((X.setRow T (thA kd nn s (.slice a1 i1 j1) (.slice b1 q1 m1))).setRow M (qae F)) (fun j=>L≤j∧j<S) (.agg (thA kd nn s (.slice a1 i1 j1) (.slice b1 q1 m1))) dd):=fun dd q h=>⟨(HAe.out dd q h).1,(HAe.out dd q h).2.1,(HAe.out dd q h).2.2.1,(HAe.out dd q h).2.2.2.same (fun _ h=>h) (fun j hj=>by rw[setRow_other _ _ _ _ (by have:=HML.out;omega),setRow_other _ _ _ _ (by have:=HTS.out;omega)])⟩
  have HS12:Hid (S≤((X.setRow T (thA kd nn s (.slice a1 i1 j1) (.slice b1 q1 m1))).setRow M (qae F)).heap.size):=by show _≤_;have:=HSX.out;simpa using this
  generalize (X.setRow T (thA kd nn s (.slice a1 i1 j1) (.slice b1 q1 m1))).setRow M (qae F)=V12 at *
  have HKW:Hid (V12.ownsRow b 9 1 (.slice ka kn kc) kl.length (kl.map qhG)):=(HX12.out.map HM.out).keys
  clear hSe hTe HXe HFe HTe HAe HSX HTS
  have k3:V12.cell? ⟨W.heap.size+1,3,none⟩=some (.slice ka kn kc):=qaa HX12.out.mv 3
  go_wp2_with (first
   |(at_builtin;(refine qag _ rfl _ _ 57 rfl b 9 si (.string ByteArray.empty) 1 16 underlying57 hsi hs0 hs1 hs2 rfl (by decide) _ _ _ rfl (HKW.out.alloc _) ⟨V12.heap.size,0,none⟩ 1 1 [.string ⟨tt.toArray⟩] rfl rfl (qa4 _ _ _) (qld _) (by decide) (by unfold maxLen;omega) (by omega) (by have:=HX12.out.size;have:=HBW.out;simp;omega) ?_);intro v' w13 hown1 hg1 hw1;obtain⟨g1,cap1,rfl⟩:=ownsRow_succ hown1;have HW13:Hid (EnW W (thA 7 0 ⟨#[]⟩ (.slice ka kn kc) (.slice ua un uc)) (.slice ka kn kc) (.slice ua un uc) w13):=(HX12.out.w _ _).grow (fun g e=>⟨qb9 HM.out.keys e,.inl rfl⟩) hg1;have HT13:Hid (w13.heap[T]? = some (.cells #[.int .i64 kd,.int .i64 nn,.string s,.slice a1 i1 j1,.slice b1 q1 m1] 93)):=(qbl hg1 (ltA HT12.out) (fun e=>by have:=qb9 HM.out.keys e.symm;have:=HLT.out;have:=HTM.out;omega)).trans HT12.out;have HF13:Hid (w13.heap[M]? = some (.cells (qae F) 95)):=(qbl hg1 (ltA HF12.out) (fun e=>by have:=qb9 HM.out.keys e.symm;have:=HLT.out;omega)).trans HF12.out;have HU13:Hid (w13.ownsRow b 93 5 (.slice ua un uc) ds.length xs):=qcd HUR.out (fun j e h1 h2=>(qbl hg1 (by have:=HX12.out.size;omega) (fun e2=>HM.out.apart j e2.symm e)).trans (HX12.out.below.block j h2));have HG1:Hid (w13.ownsRow b 9 1 (.slice (some ⟨g1,0,none⟩) (kl.length+1) cap1) (kl.length+1) (kl.map qhG++[qhG tt])∧(∀j,j<V12.heap.size→some j≠(Value.slice ka kn kc).ownBlock→w13.heap[j]? = V12.heap[j]?)∧((Value.slice (some ⟨g1,0,none⟩) (kl.length+1) cap1).ownBlock=(Value.slice ka kn kc).ownBlock∨(Value.slice (some ⟨g1,0,none⟩) (kl.length+1) cap1).ownBlock=some (V12.heap.size+1))∧V12.heap.size+1≤w13.heap.size):=⟨hown1,fun j h1 h2=>qbl hg1 h1 h2,hw1.imp_right (fun h=>by rw[h,World.size_alloc]),by have:=hg1.size;rwa [World.size_alloc] at this⟩;clear hown1 hg1 hw1 k3 HKW;have k3:w13.cell? ⟨W.heap.size+1,3,none⟩=some (.slice ka kn kc):=qaa HW13.out.mv 3;have f3:w13.frozen? ⟨W.heap.size+1,3,none⟩=false:=frozen_of_row w13 (W.heap.size+1) 3 _ _ HW13.out.mv;have k4:(w13.setCell ⟨W.heap.size+1,3,none⟩ (.slice (some ⟨g1,0,none⟩) (kl.length+1) cap1)).cell? ⟨W.heap.size+1,4,none⟩=some (.slice ua un uc):=qaa (HW13.out.cell _).1.mv 4)
   |((with_reducible refine wpList_load_row rfl 93 (.tmp 14) rfl (T) ?hx 93 (#[.int .i64 kd,.int .i64 nn,.string s,.slice a1 i1 j1,.slice b1 q1 m1]) (0,0) _ ?hg underlying93 rfl ?hi ?_);(case hx=>exact rfl);(case hg=>exact(heap_setCell_other w13 _ _ _ (by have:=HLT.out;have:=HTM.out;simp;omega)).trans HT13.out);(case hi=>exact qcw);have HW13':Hid (EnW W (thA 7 0 ⟨#[]⟩ (.slice (some ⟨g1,0,none⟩) (kl.length+1) cap1) (.slice ua un uc)) (.slice ka kn kc) (.slice ua un uc) (w13.setCell ⟨W.heap.size+1,3,none⟩ (.slice (some ⟨g1,0,none⟩) (kl.length+1) cap1))):=(HW13.out.cell _).1;have HF13':Hid ((w13.setCell ⟨W.heap.size+1,3,none⟩ (.slice (some ⟨g1,0,none⟩) (kl.length+1) cap1)).heap[M]? = some (.cells (qae F) 95)):=(heap_setCell_other w13 _ _ _ (by have:=HLT.out;simp;omega)).trans HF13.out;have HU13':Hid ((w13.setCell ⟨W.heap.size+1,3,none⟩ (.slice (some ⟨g1,0,none⟩) (kl.length+1) cap1)).ownsRow b 93 5 (.slice ua un uc) ds.length xs):=qcd HU13.out (fun j e h1 h2=>heap_setCell_other w13 _ _ _ (by have:=qb9 HUR.out e;simp;omega));have HC13:Hid ((∀j,j≠W.heap.size+1→(w13.setCell ⟨W.heap.size+1,3,none⟩ (.slice (some ⟨g1,0,none⟩) (kl.length+1) cap1)).heap[j]? = w13.heap[j]?)∧(w13.setCell ⟨W.heap.size+1,3,none⟩ (.slice (some ⟨g1,0,none⟩) (kl.length+1) cap1)).heap.size=w13.heap.size):=⟨fun j hj=>heap_setCell_other w13 _ _ _ (by simpa using hj),by simp[World.setCell]⟩;generalize w13.setCell ⟨W.heap.size+1,3,none⟩ (.slice (some ⟨g1,0,none⟩) (kl.length+1) cap1)=V13 at *;clear k3 f3)
   |(at_builtin;(refine qag _ rfl _ _ 91 rfl b 93 ti (.agg th0) 5 80 underlying91 hti ht0 ht1 ht2 rfl (by decide) _ _ _ rfl (HU13'.out.alloc _) ⟨V13.heap.size,0,none⟩ 1 1 [.int .i64 kd,.int .i64 nn,.string s,.slice a1 i1 j1,.slice b1 q1 m1] rfl rfl (qa4 _ _ _) (qdl _ _ _ _ _ _ _ _ _) (by decide) (by have:=HM.out.len;unfold maxLen;omega) (by have:=HM.out.len;omega) (by have:=HW13'.out.size;have:=HBW.out;simp;omega) ?_);intro v'' w14 hown2 hg2 hw2;obtain⟨g2,cap2,rfl⟩:=ownsRow_succ hown2;have HW14:Hid (EnW W (thA 7 0 ⟨#[]⟩ (.slice (some ⟨g1,0,none⟩) (kl.length+1) cap1) (.slice ua un uc)) (.slice ka kn kc) (.slice ua un uc) w14):=HW13'.out.grow (fun g e=>⟨qb9 HUR.out e,.inr rfl⟩) hg2;have HF14:Hid (w14.heap[M]? = some (.cells (qae F) 95)):=(qbl hg2 (ltA HF13'.out) (fun e=>by have:=qb9 HUR.out e.symm;have:=HLT.out;omega)).trans HF13'.out;have HG2:Hid (w14.ownsRow b 93 5 (.slice (some ⟨g2,0,none⟩) (ds.length+1) cap2) (ds.length+1) (xs++[.int .i64 kd,.int .i64 nn,.string s,.slice a1 i1 j1,.slice b1 q1 m1])∧(∀j,j<V13.heap.size→some j≠(Value.slice ua un uc).ownBlock→w14.heap[j]? = V13.heap[j]?)∧((Value.slice (some ⟨g2,0,none⟩) (ds.length+1) cap2).ownBlock=(Value.slice ua un uc).ownBlock∨(Value.slice (some ⟨g2,0,none⟩) (ds.length+1) cap2).ownBlock=some (V13.heap.size+1))∧V13.heap.size+1≤w14.heap.size):=⟨hown2,fun j h1 h2=>qbl hg2 h1 h2,hw2.imp_right (fun h=>by rw[h,World.size_alloc]),by have:=hg2.size;rwa [World.size_alloc] at this⟩;clear hown2 hg2 hw2 k4;have k4:w14.cell? ⟨W.heap.size+1,4,none⟩=some (.slice ua un uc):=qaa HW14.out.mv 4;have f4:w14.frozen? ⟨W.heap.size+1,4,none⟩=false:=frozen_of_row w14 (W.heap.size+1) 4 _ _ HW14.out.mv))
  have HW15:Hid (EnW W (thA 7 0 ⟨#[]⟩ (.slice (some ⟨g1,0,none⟩) (kl.length+1) cap1) (.slice (some ⟨g2,0,none⟩) (ds.length+1) cap2)) (.slice ka kn kc) (.slice ua un uc) (w14.setCell ⟨W.heap.size+1,4,none⟩ (.slice (some ⟨g2,0,none⟩) (ds.length+1) cap2))):=(HW14.out.cell _).2
  have HF15:Hid ((w14.setCell ⟨W.heap.size+1,4,none⟩ (.slice (some ⟨g2,0,none⟩) (ds.length+1) cap2)).heap[M]? = some (.cells (qae F) 95)):=(heap_setCell_other w14 _ _ _ (by have:=HLT.out;simp;omega)).trans HF14.out
  have HC15:Hid ((∀j,j≠W.heap.size+1→(w14.setCell ⟨W.heap.size+1,4,none⟩ (.slice (some ⟨g2,0,none⟩) (ds.length+1) cap2)).heap[j]? = w14.heap[j]?)∧(w14.setCell ⟨W.heap.size+1,4,none⟩ (.slice (some ⟨g2,0,none⟩) (ds.length+1) cap2)).heap.size=w14.heap.size):=⟨fun j hj=>heap_setCell_other w14 _ _ _ (by simpa using hj),by simp[World.setCell]⟩
  generalize w14.setCell ⟨W.heap.size+1,4,none⟩ (.slice (some ⟨g2,0,none⟩) (ds.length+1) cap2)=V15 at *
  clear k4 f4
  refine rgn (S:=fun Z=>Z.heap[W.heap.size+1]? = some (.cells (thA 7 0 ⟨#[]⟩ (.slice (some ⟨g1,0,none⟩) (kl.length+1) cap1) (.slice (some ⟨g2,0,none⟩) (ds.length+1) cap2)) 93)∧Z.heap[M]? = some (.cells (qae F) 95)) (⟨HW15.out.mv,HF15.out⟩) (by kernel_rfl) ?_
  intro hS
  refine tk 0 88 (.agg (thA 7 0 ⟨#[]⟩ (.slice (some ⟨g1,0,none⟩) (kl.length+1) cap1) (.slice (some ⟨g2,0,none⟩) (ds.length+1) cap2))) rfl (by kernel_rfl) iQ3 (fun Z hZ=>yT 5 hZ.1 rfl rfl) hS ?_
  refine tkk 1 89 (.int .i64 z) (by kernel_rfl) iQ3 hS ?_
  refine tk 2 90 (.agg (qae F)) rfl (by kernel_rfl) iQ3 (fun Z hZ=>yF 12 hZ.2 rfl rfl) hS ?_
  have hT15:=And.intro ((setRow_other _ (W.heap.size+2) (W.heap.size+1) (thA 7 0 ⟨#[]⟩ (.slice (some ⟨g1,0,none⟩) (kl.length+1) cap1) (.slice (some ⟨g2,0,none⟩) (ds.length+1) cap2)) (by omega)).trans hS.1) ((setRow_other _ (W.heap.size+2) M (thA 7 0 ⟨#[]⟩ (.slice (some ⟨g1,0,none⟩) (kl.length+1) cap1) (.slice (some ⟨g2,0,none⟩) (ds.length+1) cap2)) (by have:=HLT.out;omega)).trans hS.2)
  refine sTh 3 8 88 (W.heap.size+2) (thA 7 0 ⟨#[]⟩ (.slice (some ⟨g1,0,none⟩) (kl.length+1) cap1) (.slice (some ⟨g2,0,none⟩) (ds.length+1) cap2)) (by kernel_rfl) (HW15.out.drew.th) thg (hT15) ?_
  refine tkk 4 9 (.int .i64 z) (by kernel_rfl) iQ3 hT15 ?_
  refine sF 5 10 90 (W.heap.size+3) F (by kernel_rfl) (sx (by omega) HW15.out.drew.flt) (⟨sx (by omega) hT15.1,sx (by have:=HLT.out;omega) hT15.2⟩) ?_
  refine wpAnyH_done (by kernel_rfl) ?_ _
  go_simp
  go_wp2
  have hf:=HW15.out.drew.fin (thA 7 0 ⟨#[]⟩ (.slice (some ⟨g1,0,none⟩) (kl.length+1) cap1) (.slice (some ⟨g2,0,none⟩) (ds.length+1) cap2)) (F)
  refine eoT results205 hf (.int .i64 z) rfl rfl rfl rfl ⟨hf.2.2,?_⟩
  refine⟨qmb kl ds tt r',HRL.out r' HLO.out,?_⟩
  cases r' with
  |error f =>
   obtain rfl:=HFE.out f rfl
   exact⟨_,_,_,_,_,_,_,_,_,_,rfl⟩
  |ok x =>
   obtain⟨dd,q⟩:=x
   obtain⟨hq,rfl,rfl,hA⟩:=HA12.out dd q rfl
   refine⟨hq,tt,dd,_,_,_,_,_,_,rfl,rfl,?_⟩
   exact qnh HM.out HEX.out HUR.out HUC.out HBW.out (fun j hj=>HX12.out.below.block j hj) hA (by have:=HLT.out;have:=HML.out;omega) HS12.out HX12.out.size rfl HG1.out.1 HG1.out.2.1 HG1.out.2.2.1 HG1.out.2.2.2 HC13.out.1 HC13.out.2 HG2.out.1 HG2.out.2.1 HG2.out.2.2.1 HG2.out.2.2.2 (fun j hj=>by rw[setRow_other _ _ _ _ (by omega),setRow_other _ _ _ _ (by omega)];exact HC15.out.1 j (by omega)) (by have:=HC15.out.2;simp;omega)
end
end Go.Proofs.YtllcbnfmihfaaaaGreatDoor
