import Derived.Test.YtllcbnfmihfaaaaGreatDoorUq32
set_option maxRecDepth 100000
set_option maxHeartbeats 8000000
namespace Go.Proofs.YtllcbnfmihfaaaaGreatDoor
open Go.Proofs.Tryz
section
open Go.RowKit Go.Lib
def qbj (x:Int×Int)(e:Ending):Prop:=∃a n q o,e=.returned (.tuple #[.agg (hdC a n q o),.agg (qae x)])
def qaY (R:Except (Int×Int) (Nat×Nat))(kd:Int)(fn:Int→Int)(q:Int)(e:Ending):Prop:=∃nv ov F,e=.returned (.tuple #[.agg (hdC kd (fn nv) q ov),.agg (qae F)])∧qb8 R nv ov F
def kdT (n:Nat):Int:=if n=0 then 3 else if n=1 then 3 else if n=2 then 5 else if n=3 then 4 else if n=4 then 6 else 7
theorem qb4 (w:World)(n:Nat)(hn:n<6):(w.alloc (.cells #[.int .i64 3,.int .i64 3,.int .i64 5,.int .i64 4,.int .i64 6,.int .i64 7] 3)).cell? ⟨w.heap.size,n,none⟩=some (.int .i64 (kdT n)):=by
 rw[qaa (qab _ _) n]
 match n,hn with
 |0,_=>rfl
 |1,_=>rfl
 |2,_=>rfl
 |3,_=>rfl
 |4,_=>rfl
 |5,_=>rfl
theorem qa1 (W:World)(bs:List UInt8)(fm d l lim:Int)(i:Nat)(kd:Int)(k:Nat)(hk:k≤8)(hl:Lm bs l lim)(hi:InR bs lim (i+1))(hb:bs.length≤200000000):Calls prog 232 #[.agg (inA bs fm d l),.int .i64 i,.int .i64 kd,.int .i64 k] W fun e W'=>qaY (qa0 bs lim k (i+1) 0) kd (fun nv=>nv) ((i:Int)+1+k) e∧Below W.heap.size W W':=by
 have cG0:=fun V=>qbF V bs fm d l lim (i+1) k hk hl hi hb
 unfold inA at cG0
 obtain⟨nv,ov,F,hbv,hBI⟩:=qbd (qa0 bs lim k (i+1) 0)
 rw[hbv] at cG0
 have cG:=cG0
 unfold inA at cG
 have hnv0:=hBI.1
 have hnv1:=hBI.2.1
 have HBI:Hid (qb8 (qa0 bs lim k (i+1) 0) nv ov F):=hBI
 have HX:=qat W bs fm d l
 have hib:=hi.1
 clear hl hi cG0 hbv hBI
 unfold inA
 go_enter func232,ntmps232
 go_wp2_with (first
  |(go_at_call 231;refine ck (cG _) HX.out.next ?_;clear cG;intro w3 HX3)
  |((with_reducible refine zF 12 21 rfl rfl (w3.heap.size) F ?_ ?_);exact⟨rfl,rfl,qab w3 _⟩;refine nmd ?_;intro V4 EV4;have HX4:Hid (qcE W (inA bs fm d l) V4):=EV4▸HX3.out.next (qal _ _);have HF4:Hid (V4.heap[w3.heap.size]? = some (.cells (qae F) 95)):=EV4▸setRow_heap _ _ _ _ _ _ (qab _ _);have HLT:Hid (W.heap.size+3≤w3.heap.size):=HX3.out.size;clear EV4;generalize w3.heap.size=M at *))
 refine rgn (S:=fun Z=>Z.heap[M]? = some (.cells (qae F) 95)) (HF4.out) (by kernel_rfl) ?_
 intro hS
 refine tk 8 30 (.agg (qae F)) rfl (by kernel_rfl) iQ3 (fun Z hZ=>yF 12 hZ rfl rfl) hS ?_
 refine tkk 0 22 (.int .i64 kd) (by kernel_rfl) iQ3 hS ?_
 refine tkk 1 23 (.int .i64 nv) (by kernel_rfl) iQ3 hS ?_
 refine tkk 2 24 (.int .i64 i) (by kernel_rfl) iQ3 hS ?_
 refine tk 3 25 (.int .i64 ((i:Int)+1)) rfl (by kernel_rfl) iQ3 (fun Z hZ => ?y3) hS ?_
 case y3=>(go_simp;exact qdL _ (by omega))
 refine tkk 4 26 (.int .i64 k) (by kernel_rfl) iQ3 hS ?_
 refine tk 5 27 (.int .i64 ((i:Int)+1+k)) rfl (by kernel_rfl) iQ3 (fun Z hZ => ?y5) hS ?_
 case y5=>(go_simp;exact qdL _ (by omega))
 refine tkk 6 28 (.bool ov) (by kernel_rfl) iQ3 hS ?_
 refine tk 7 29 (.agg (hdC kd nv ((i:Int)+1+k) ov)) rfl (by kernel_rfl) iQ3 (fun Z hZ => ?y7) hS ?_
 case y7=>(unfold hdC;go_simp)
 refine sH 9 8 29 (W.heap.size+1) kd nv ((i:Int)+1+k) ov (by kernel_rfl) (HX4.out.drew.hd) ((setRow_other _ (W.heap.size+1) M (hdC kd nv ((i:Int)+1+k) ov) (by have:=HLT.out;omega)).trans hS) ?_
 refine sF 10 9 30 (W.heap.size+2) F (by kernel_rfl) (sx (by omega) HX4.out.drew.flt) (sx (by have:=HLT.out;omega) ((setRow_other _ (W.heap.size+1) M (hdC kd nv ((i:Int)+1+k) ov) (by have:=HLT.out;omega)).trans hS)) ?_
 refine wpAnyH_done (by kernel_rfl) ?_ _
 go_simp
 go_wp2
 have hf:=HX4.out.drew.fin (hdC kd nv ((i:Int)+1+k) ov) (F)
 refine eoH results232 hf rfl rfl rfl ⟨?_,hf.2.2⟩
 exact⟨nv,ov,F,rfl,HBI.out⟩
theorem qeu (W:World)(bs:List UInt8)(fm d l _lim:Int)(i:Nat)(x:Int×Int)(h2:qaI bs l i 9=x)(h1:qaz bs l i=false):Calls prog 207 #[.agg (inA bs fm d l),.int .i64 i] W fun e W'=>qbj x e∧Below W.heap.size W W':=by
 have cH1:=qap fm d h1
 have cB1:=qcz fm d h2
 have HX:=qat W bs fm d l
 clear h1 h2
 unfold inA
 go_enter func207,ntmps207
 go_wp2_with (first
  |(go_at_call 113;refine HX.out.ck (cH1 _) ?_;clear cH1;intro w2 HX2 c0 c1 c2 c3;have n1:W.heap.size<w2.heap.size:=(by have:=HX2.out.size;omega);have n2:W.heap.size<w2.heap.size+1:=(by omega))
  |(go_at_call 71;refine HX2.out.ck (cB1 _) ?_;clear cB1 c0 c1 c2 c3;intro w3 HX3 c0 c1 c2 c3)
  |((with_reducible refine zH 4 18 rfl rfl (W.heap.size+1) 0 0 0 false ?_ ?_);exact⟨rfl,rfl,HX3.out.hd⟩)
  |((with_reducible refine zF 5 21 rfl rfl (W.heap.size+2) (x) ?_ ?_);exact⟨rfl,rfl,sx (by omega) HX3.out.flt⟩))
 have hf:=HX3.out.fin (hdC 0 0 0 false) (x)
 refine eoH results207 hf rfl rfl rfl ⟨?_,hf.2.2⟩
 exact⟨0,0,0,false,rfl⟩
theorem qh6 (W:World)(bs:List UInt8)(fm d l _lim:Int)(i:Nat)(x:Int×Int)(h2:qaI bs l i 9=x)(c:UInt8)(hc:bs[i]? = some c)(h1:qaz bs l i=true)(hs:c.toNat / 32=7)(m:Nat)(hm:c.toNat%32=m)(hlow:m<20):Calls prog 207 #[.agg (inA bs fm d l),.int .i64 i] W fun e W'=>qbj x e∧Below W.heap.size W W':=by
 have hix:=qah bs i c hc
 have hib:=ltL hc
 have hc255:=c.toNat_lt
 have hq:(c.toNat:Int) / 32=7:=by omega
 have hr:(c.toNat:Int)%32=(m:Int):=by omega
 have tl:decide ((m:Int)<20)=true:=by simp;omega
 have cH1:=qap fm d h1
 have cB1:=qcz fm d h2
 have HX:=qat W bs fm d l
 clear h1 h2 hc hs hlow hm
 unfold inA
 go_enter func207,ntmps207
 go_wp2_with (first
  |(go_at_call 113;refine HX.out.ck (cH1 _) ?_;clear cH1;intro w2 HX2 c0 c1 c2 c3;have n1:W.heap.size<w2.heap.size:=(by have:=HX2.out.size;omega);have n2:W.heap.size<w2.heap.size+1:=(by omega))
  |(go_at_call 71;refine(cB1 _).mono ?_;clear cB1 c0 c1 c2 c3;rintro e w3 ⟨rfl,hB3⟩;have HX3:Hid (qcE W (inA bs fm d l) w3):=(HX2.out.next (bwO (.cells #[.int .i64 1,.int .i64 2,.int .i64 0] 3))).next hB3;obtain⟨c0,c1,c2,c3⟩:=qa3 HX3.out.box)
  |((with_reducible refine zH 4 43 rfl rfl (W.heap.size+1) 0 0 0 false ?_ ?_);exact⟨rfl,rfl,HX3.out.hd⟩)
  |((with_reducible refine zF 5 46 rfl rfl (W.heap.size+2) (x) ?_ ?_);exact⟨rfl,rfl,sx (by omega) HX3.out.flt⟩))
 have hf:=HX3.out.fin (hdC 0 0 0 false) (x)
 refine eoH results207 hf rfl rfl rfl ⟨?_,hf.2.2⟩
 exact⟨0,0,0,false,rfl⟩
theorem qit (W:World)(bs:List UInt8)(fm d l _lim:Int)(i:Nat)(x:Int×Int)(h2:qaI bs l i 9=x)(c:UInt8)(hc:bs[i]? = some c)(h1:qaz bs l i=true)(hs:c.toNat / 32=7)(m:Nat)(hm:c.toNat%32=m)(hlow:22<m):Calls prog 207 #[.agg (inA bs fm d l),.int .i64 i] W fun e W'=>qbj x e∧Below W.heap.size W W':=by
 have hix:=qah bs i c hc
 have hib:=ltL hc
 have hc255:=c.toNat_lt
 have hq:(c.toNat:Int) / 32=7:=by omega
 have hr:(c.toNat:Int)%32=(m:Int):=by omega
 have tl:decide ((m:Int)<20)=false:=by simp;omega
 have tg:decide (22<(m:Int))=true:=by simp;omega
 have cH1:=qap fm d h1
 have cB1:=qcz fm d h2
 have HX:=qat W bs fm d l
 clear h1 h2 hc hs hlow hm
 unfold inA
 go_enter func207,ntmps207
 go_wp2_with (first
  |(go_at_call 113;refine HX.out.ck (cH1 _) ?_;clear cH1;intro w2 HX2 c0 c1 c2 c3;have n1:W.heap.size<w2.heap.size:=(by have:=HX2.out.size;omega);have n2:W.heap.size<w2.heap.size+1:=(by omega))
  |(go_at_call 71;refine(cB1 _).mono ?_;clear cB1 c0 c1 c2 c3;rintro e w3 ⟨rfl,hB3⟩;have HX3:Hid (qcE W (inA bs fm d l) w3):=(HX2.out.next (bwO (.cells #[.int .i64 1,.int .i64 2,.int .i64 0] 3))).next hB3;obtain⟨c0,c1,c2,c3⟩:=qa3 HX3.out.box)
  |((with_reducible refine zH 4 43 rfl rfl (W.heap.size+1) 0 0 0 false ?_ ?_);exact⟨rfl,rfl,HX3.out.hd⟩)
  |((with_reducible refine zF 5 46 rfl rfl (W.heap.size+2) (x) ?_ ?_);exact⟨rfl,rfl,sx (by omega) HX3.out.flt⟩))
 have hf:=HX3.out.fin (hdC 0 0 0 false) (x)
 refine eoH results207 hf rfl rfl rfl ⟨?_,hf.2.2⟩
 exact⟨0,0,0,false,rfl⟩
theorem qfG (W:World)(bs:List UInt8)(fm d l _lim:Int)(i:Nat)(c:UInt8)(hc:bs[i]? = some c)(h1:qaz bs l i=true)(hs:c.toNat / 32=7)(hm:c.toNat%32=20)(hb:bs.length≤200000000):Calls prog 207 #[.agg (inA bs fm d l),.int .i64 i] W fun e W'=>e=.returned (.tuple #[.agg (hdC 1 0 ((i:Int)+1) false),.agg (qae (0,0))])∧Below W.heap.size W W':=by
 have hix:=qah bs i c hc
 have hib:=ltL hc
 have hc255:=c.toNat_lt
 have hq:(c.toNat:Int) / 32=7:=by omega
 have hr:(c.toNat:Int)%32=20:=by omega
 have cH1:=qap fm d h1
 have HX:=qat W bs fm d l
 clear h1 hc hs hm
 unfold inA
 go_enter func207,ntmps207
 go_wp2_with (first
  |(go_at_call 113;refine HX.out.ck (cH1 _) ?_;clear cH1;intro w2 HX2 c0 c1 c2 c3;have n1:W.heap.size<w2.heap.size:=(by have:=HX2.out.size;omega);have n2:W.heap.size<w2.heap.size+1:=(by omega))
  |((with_reducible refine zH 4 54 rfl rfl (W.heap.size+1) 1 0 ((i:Int)+1) false ?_ ?_);exact⟨rfl,rfl,(HX2.out.next (bwO (.cells #[.int .i64 1,.int .i64 2,.int .i64 0] 3))).hd⟩)
  |((with_reducible refine zF 5 55 rfl rfl (W.heap.size+2) (0,0) ?_ ?_);exact⟨rfl,rfl,sx (by omega) (HX2.out.next (bwO (.cells #[.int .i64 1,.int .i64 2,.int .i64 0] 3))).flt⟩))
 have hf:=(HX2.out.next (bwO (.cells #[.int .i64 1,.int .i64 2,.int .i64 0] 3))).fin (hdC 1 0 ((i:Int)+1) false) (0,0)
 refine eoH results207 hf rfl rfl rfl ⟨?_,hf.2.2⟩
 rfl
theorem qfs (W:World)(bs:List UInt8)(fm d l _lim:Int)(i:Nat)(c:UInt8)(hc:bs[i]? = some c)(h1:qaz bs l i=true)(hs:c.toNat / 32=7)(hm:c.toNat%32=21)(hb:bs.length≤200000000):Calls prog 207 #[.agg (inA bs fm d l),.int .i64 i] W fun e W'=>e=.returned (.tuple #[.agg (hdC 2 0 ((i:Int)+1) false),.agg (qae (0,0))])∧Below W.heap.size W W':=by
 have hix:=qah bs i c hc
 have hib:=ltL hc
 have hc255:=c.toNat_lt
 have hq:(c.toNat:Int) / 32=7:=by omega
 have hr:(c.toNat:Int)%32=21:=by omega
 have cH1:=qap fm d h1
 have HX:=qat W bs fm d l
 clear h1 hc hs hm
 unfold inA
 go_enter func207,ntmps207
 go_wp2_with (first
  |(go_at_call 113;refine HX.out.ck (cH1 _) ?_;clear cH1;intro w2 HX2 c0 c1 c2 c3;have n1:W.heap.size<w2.heap.size:=(by have:=HX2.out.size;omega);have n2:W.heap.size<w2.heap.size+1:=(by omega))
  |((with_reducible refine zH 4 54 rfl rfl (W.heap.size+1) 2 0 ((i:Int)+1) false ?_ ?_);exact⟨rfl,rfl,(HX2.out.next (bwO (.cells #[.int .i64 1,.int .i64 2,.int .i64 0] 3))).hd⟩)
  |((with_reducible refine zF 5 55 rfl rfl (W.heap.size+2) (0,0) ?_ ?_);exact⟨rfl,rfl,sx (by omega) (HX2.out.next (bwO (.cells #[.int .i64 1,.int .i64 2,.int .i64 0] 3))).flt⟩))
 have hf:=(HX2.out.next (bwO (.cells #[.int .i64 1,.int .i64 2,.int .i64 0] 3))).fin (hdC 2 0 ((i:Int)+1) false) (0,0)
 refine eoH results207 hf rfl rfl rfl ⟨?_,hf.2.2⟩
 rfl
theorem qfo (W:World)(bs:List UInt8)(fm d l _lim:Int)(i:Nat)(c:UInt8)(hc:bs[i]? = some c)(h1:qaz bs l i=true)(hs:c.toNat / 32=7)(hm:c.toNat%32=22)(hb:bs.length≤200000000):Calls prog 207 #[.agg (inA bs fm d l),.int .i64 i] W fun e W'=>e=.returned (.tuple #[.agg (hdC 0 0 ((i:Int)+1) false),.agg (qae (0,0))])∧Below W.heap.size W W':=by
 have hix:=qah bs i c hc
 have hib:=ltL hc
 have hc255:=c.toNat_lt
 have hq:(c.toNat:Int) / 32=7:=by omega
 have hr:(c.toNat:Int)%32=22:=by omega
 have cH1:=qap fm d h1
 have HX:=qat W bs fm d l
 clear h1 hc hs hm
 unfold inA
 go_enter func207,ntmps207
 go_wp2_with (first
  |(go_at_call 113;refine HX.out.ck (cH1 _) ?_;clear cH1;intro w2 HX2 c0 c1 c2 c3;have n1:W.heap.size<w2.heap.size:=(by have:=HX2.out.size;omega);have n2:W.heap.size<w2.heap.size+1:=(by omega))
  |((with_reducible refine zH 4 54 rfl rfl (W.heap.size+1) 0 0 ((i:Int)+1) false ?_ ?_);exact⟨rfl,rfl,(HX2.out.next (bwO (.cells #[.int .i64 1,.int .i64 2,.int .i64 0] 3))).hd⟩)
  |((with_reducible refine zF 5 55 rfl rfl (W.heap.size+2) (0,0) ?_ ?_);exact⟨rfl,rfl,sx (by omega) (HX2.out.next (bwO (.cells #[.int .i64 1,.int .i64 2,.int .i64 0] 3))).flt⟩))
 have hf:=(HX2.out.next (bwO (.cells #[.int .i64 1,.int .i64 2,.int .i64 0] 3))).fin (hdC 0 0 ((i:Int)+1) false) (0,0)
 refine eoH results207 hf rfl rfl rfl ⟨?_,hf.2.2⟩
 rfl
theorem qjD (W:World)(bs:List UInt8)(fm d l _lim:Int)(i:Nat)(x:Int×Int)(h2:qaI bs l i 9=x)(c:UInt8)(hc:bs[i]? = some c)(h1:qaz bs l i=true)(hs:c.toNat / 32=6)(m:Nat)(hm:c.toNat%32=m):Calls prog 207 #[.agg (inA bs fm d l),.int .i64 i] W fun e W'=>qbj x e∧Below W.heap.size W W':=by
 have hix:=qah bs i c hc
 have hib:=ltL hc
 have hc255:=c.toNat_lt
 have hq:(c.toNat:Int) / 32=6:=by omega
 have hr:(c.toNat:Int)%32=(m:Int):=by omega
 have cH1:=qap fm d h1
 have cB1:=qcz fm d h2
 have HX:=qat W bs fm d l
 clear h1 h2 hc hs hm
 unfold inA
 go_enter func207,ntmps207
 go_wp2_with (first
  |(go_at_call 113;refine HX.out.ck (cH1 _) ?_;clear cH1;intro w2 HX2 c0 c1 c2 c3;have n1:W.heap.size<w2.heap.size:=(by have:=HX2.out.size;omega);have n2:W.heap.size<w2.heap.size+1:=(by omega))
  |(go_at_call 71;refine HX2.out.ck (cB1 _) ?_;clear cB1 c0 c1 c2 c3;intro w3 HX3 c0 c1 c2 c3)
  |((with_reducible refine zH 4 62 rfl rfl (W.heap.size+1) 0 0 0 false ?_ ?_);exact⟨rfl,rfl,HX3.out.hd⟩)
  |((with_reducible refine zF 5 65 rfl rfl (W.heap.size+2) (x) ?_ ?_);exact⟨rfl,rfl,sx (by omega) HX3.out.flt⟩))
 have hf:=HX3.out.fin (hdC 0 0 0 false) (x)
 refine eoH results207 hf rfl rfl rfl ⟨?_,hf.2.2⟩
 exact⟨0,0,0,false,rfl⟩
theorem qhz (W:World)(bs:List UInt8)(fm d l _lim:Int)(i:Nat)(x:Int×Int)(h2:qaI bs l i 9=x)(c:UInt8)(hc:bs[i]? = some c)(h1:qaz bs l i=true)(n m:Nat)(hs:c.toNat / 32=n)(hn:n<6)(hm:c.toNat%32=m)(hlow:27<m):Calls prog 207 #[.agg (inA bs fm d l),.int .i64 i] W fun e W'=>qbj x e∧Below W.heap.size W W':=by
 have hix:=qah bs i c hc
 have hib:=ltL hc
 have hc255:=c.toNat_lt
 have hq:(c.toNat:Int) / 32=(n:Int):=by omega
 have hr:(c.toNat:Int)%32=(m:Int):=by omega
 have t7:((n:Int)==7)=false:=by simp;omega
 have t6:((n:Int)==6)=false:=by simp;omega
 have tg:decide (27<(m:Int))=true:=by simp;omega
 have cH1:=qap fm d h1
 have cB1:=qcz fm d h2
 have HX:=qat W bs fm d l
 clear h1 h2 hc hs hm hlow
 unfold inA
 go_enter func207,ntmps207
 go_wp2_with (first
  |(go_at_call 113;refine HX.out.ck (cH1 _) ?_;clear cH1;intro w2 HX2 c0 c1 c2 c3;have n1:W.heap.size<w2.heap.size:=(by have:=HX2.out.size;omega);have n2:W.heap.size<w2.heap.size+1:=(by omega))
  |(go_at_call 71;refine HX2.out.ck (cB1 _) ?_;clear cB1 c0 c1 c2 c3;intro w3 HX3 c0 c1 c2 c3)
  |((with_reducible refine zH 4 62 rfl rfl (W.heap.size+1) 0 0 0 false ?_ ?_);exact⟨rfl,rfl,HX3.out.hd⟩)
  |((with_reducible refine zF 5 65 rfl rfl (W.heap.size+2) (x) ?_ ?_);exact⟨rfl,rfl,sx (by omega) HX3.out.flt⟩))
 have hf:=HX3.out.fin (hdC 0 0 0 false) (x)
 refine eoH results207 hf rfl rfl rfl ⟨?_,hf.2.2⟩
 exact⟨0,0,0,false,rfl⟩
theorem qed (W:World)(bs:List UInt8)(fm d l _lim:Int)(i:Nat)(x:Int×Int)(h2:qaI bs l i 9=x)(h1:qaz bs l i=false):Calls prog 208 #[.agg (inA bs fm d l),.int .i64 i] W fun e W'=>qbj x e∧Below W.heap.size W W':=by
 have cH1:=qap fm d h1
 have cB1:=qcz fm d h2
 have HX:=qat W bs fm d l
 clear h1 h2
 unfold inA
 go_enter func208,ntmps208
 go_wp2_with (first
  |(go_at_call 113;refine HX.out.ck (cH1 _) ?_;clear cH1;intro w2 HX2 c0 c1 c2 c3)
  |(go_at_call 71;refine HX2.out.ck (cB1 _) ?_;clear cB1 c0 c1 c2 c3;intro w3 HX3 c0 c1 c2 c3)
  |((with_reducible refine zH 4 11 rfl rfl (W.heap.size+1) 0 0 0 false ?_ ?_);exact⟨rfl,rfl,HX3.out.hd⟩)
  |((with_reducible refine zF 5 14 rfl rfl (W.heap.size+2) (x) ?_ ?_);exact⟨rfl,rfl,sx (by omega) HX3.out.flt⟩))
 have hf:=HX3.out.fin (hdC 0 0 0 false) (x)
 refine eoH results208 hf rfl rfl rfl ⟨?_,hf.2.2⟩
 exact⟨0,0,0,false,rfl⟩
theorem qh5 (W:World)(bs:List UInt8)(fm d l _lim:Int)(i:Nat)(x:Int×Int)(h2:qaI bs l i 9=x)(c:UInt8)(hc:bs[i]? = some c)(h1:qaz bs l i=true)(hv:c.toNat=193):Calls prog 208 #[.agg (inA bs fm d l),.int .i64 i] W fun e W'=>qbj x e∧Below W.heap.size W W':=by
 have hix:=qdM hc hv
 have hib:=ltL hc
 have cH1:=qap fm d h1
 have cB1:=qcz fm d h2
 have HX:=qat W bs fm d l
 clear h1 h2 hc hv
 unfold inA
 go_enter func208,ntmps208
 go_wp2_with (first
  |(go_at_call 113;refine HX.out.ck (cH1 _) ?_;clear cH1;intro w2 HX2 c0 c1 c2 c3)
  |(go_at_call 71;refine HX2.out.ck (cB1 _) ?_;clear cB1 c0 c1 c2 c3;intro w3 HX3 c0 c1 c2 c3)
  |((with_reducible refine zH 4 185 rfl rfl (W.heap.size+1) 0 0 0 false ?_ ?_);exact⟨rfl,rfl,HX3.out.hd⟩)
  |((with_reducible refine zF 5 188 rfl rfl (W.heap.size+2) (x) ?_ ?_);exact⟨rfl,rfl,sx (by omega) HX3.out.flt⟩))
 have hf:=HX3.out.fin (hdC 0 0 0 false) (x)
 refine eoH results208 hf rfl rfl rfl ⟨?_,hf.2.2⟩
 exact⟨0,0,0,false,rfl⟩
theorem qip (W:World)(bs:List UInt8)(fm d l _lim:Int)(i:Nat)(x:Int×Int)(h2:qaI bs l i 9=x)(c:UInt8)(hc:bs[i]? = some c)(h1:qaz bs l i=true)(hlo:199≤(c.toNat:Int))(hhi:(c.toNat:Int)≤203):Calls prog 208 #[.agg (inA bs fm d l),.int .i64 i] W fun e W'=>qbj x e∧Below W.heap.size W W':=by
 have hix:=qah bs i c hc
 have hib:=ltL hc
 have e192:=nec (c:=c) 192 (by omega)
 have e194:=nec (c:=c) 194 (by omega)
 have e195:=nec (c:=c) 195 (by omega)
 have e220:=nec (c:=c) 220 (by omega)
 have e221:=nec (c:=c) 221 (by omega)
 have e222:=nec (c:=c) 222 (by omega)
 have e223:=nec (c:=c) 223 (by omega)
 have cH1:=qap fm d h1
 have cB1:=qcz fm d h2
 have HX:=qat W bs fm d l
 clear h1 h2 hc
 unfold inA
 go_enter func208,ntmps208
 go_wp2_with (first
  |(go_at_call 113;refine HX.out.ck (cH1 _) ?_;clear cH1;intro w2 HX2 c0 c1 c2 c3)
  |(go_at_call 71;refine HX2.out.ck (cB1 _) ?_;clear cB1 c0 c1 c2 c3;intro w3 HX3 c0 c1 c2 c3)
  |((with_reducible refine zH 4 185 rfl rfl (W.heap.size+1) 0 0 0 false ?_ ?_);exact⟨rfl,rfl,HX3.out.hd⟩)
  |((with_reducible refine zF 5 188 rfl rfl (W.heap.size+2) (x) ?_ ?_);exact⟨rfl,rfl,sx (by omega) HX3.out.flt⟩))
 have hf:=HX3.out.fin (hdC 0 0 0 false) (x)
 refine eoH results208 hf rfl rfl rfl ⟨?_,hf.2.2⟩
 exact⟨0,0,0,false,rfl⟩
theorem qhN (W:World)(bs:List UInt8)(fm d l _lim:Int)(i:Nat)(x:Int×Int)(h2:qaI bs l i 9=x)(c:UInt8)(hc:bs[i]? = some c)(h1:qaz bs l i=true)(hlo:212≤(c.toNat:Int))(hhi:(c.toNat:Int)≤216):Calls prog 208 #[.agg (inA bs fm d l),.int .i64 i] W fun e W'=>qbj x e∧Below W.heap.size W W':=by
 have hix:=qah bs i c hc
 have hib:=ltL hc
 have e192:=nec (c:=c) 192 (by omega)
 have e194:=nec (c:=c) 194 (by omega)
 have e195:=nec (c:=c) 195 (by omega)
 have e220:=nec (c:=c) 220 (by omega)
 have e221:=nec (c:=c) 221 (by omega)
 have e222:=nec (c:=c) 222 (by omega)
 have e223:=nec (c:=c) 223 (by omega)
 have cH1:=qap fm d h1
 have cB1:=qcz fm d h2
 have HX:=qat W bs fm d l
 clear h1 h2 hc
 unfold inA
 go_enter func208,ntmps208
 go_wp2_with (first
  |(go_at_call 113;refine HX.out.ck (cH1 _) ?_;clear cH1;intro w2 HX2 c0 c1 c2 c3)
  |(go_at_call 71;refine HX2.out.ck (cB1 _) ?_;clear cB1 c0 c1 c2 c3;intro w3 HX3 c0 c1 c2 c3)
  |((with_reducible refine zH 4 185 rfl rfl (W.heap.size+1) 0 0 0 false ?_ ?_);exact⟨rfl,rfl,HX3.out.hd⟩)
  |((with_reducible refine zF 5 188 rfl rfl (W.heap.size+2) (x) ?_ ?_);exact⟨rfl,rfl,sx (by omega) HX3.out.flt⟩))
 have hf:=HX3.out.fin (hdC 0 0 0 false) (x)
 refine eoH results208 hf rfl rfl rfl ⟨?_,hf.2.2⟩
 exact⟨0,0,0,false,rfl⟩
theorem qjU (W:World)(bs:List UInt8)(fm d l _lim:Int)(i:Nat)(c:UInt8)(hc:bs[i]? = some c)(h1:qaz bs l i=true)(hlo:0≤(c.toNat:Int))(hhi:(c.toNat:Int)≤127)(hb:bs.length≤200000000):Calls prog 208 #[.agg (inA bs fm d l),.int .i64 i] W fun e W'=>e=.returned (.tuple #[.agg (hdC 3 ((c.toNat:Int)) ((i:Int)+1) false),.agg (qae (0,0))])∧Below W.heap.size W W':=by
 have hix:=qah bs i c hc
 have hib:=ltL hc
 have e192:=nec (c:=c) 192 (by omega)
 have e194:=nec (c:=c) 194 (by omega)
 have e195:=nec (c:=c) 195 (by omega)
 have e220:=nec (c:=c) 220 (by omega)
 have e221:=nec (c:=c) 221 (by omega)
 have e222:=nec (c:=c) 222 (by omega)
 have e223:=nec (c:=c) 223 (by omega)
 have cH1:=qap fm d h1
 have HX:=qat W bs fm d l
 clear h1 hc
 unfold inA
 go_enter func208,ntmps208
 go_wp2_with (first
  |(go_at_call 113;refine HX.out.ck (cH1 _) ?_;clear cH1;intro w2 HX2 c0 c1 c2 c3)
  |((with_reducible refine zH 4 26 rfl rfl (W.heap.size+1) 3 ((c.toNat:Int)) ((i:Int)+1) false ?_ ?_);exact⟨rfl,rfl,HX2.out.hd⟩)
  |((with_reducible refine zF 5 27 rfl rfl (W.heap.size+2) (0,0) ?_ ?_);exact⟨rfl,rfl,sx (by omega) HX2.out.flt⟩))
 have hf:=HX2.out.fin (hdC 3 ((c.toNat:Int)) ((i:Int)+1) false) (0,0)
 refine eoH results208 hf rfl rfl rfl ⟨?_,hf.2.2⟩
 rfl
theorem qj6 (W:World)(bs:List UInt8)(fm d l _lim:Int)(i:Nat)(c:UInt8)(hc:bs[i]? = some c)(h1:qaz bs l i=true)(hlo:128≤(c.toNat:Int))(hhi:(c.toNat:Int)≤143)(hb:bs.length≤200000000):Calls prog 208 #[.agg (inA bs fm d l),.int .i64 i] W fun e W'=>e=.returned (.tuple #[.agg (hdC 7 ((c.toNat:Int)-128) ((i:Int)+1) false),.agg (qae (0,0))])∧Below W.heap.size W W':=by
 have hix:=qah bs i c hc
 have hib:=ltL hc
 have e192:=nec (c:=c) 192 (by omega)
 have e194:=nec (c:=c) 194 (by omega)
 have e195:=nec (c:=c) 195 (by omega)
 have e220:=nec (c:=c) 220 (by omega)
 have e221:=nec (c:=c) 221 (by omega)
 have e222:=nec (c:=c) 222 (by omega)
 have e223:=nec (c:=c) 223 (by omega)
 have cH1:=qap fm d h1
 have HX:=qat W bs fm d l
 clear h1 hc
 unfold inA
 go_enter func208,ntmps208
 go_wp2_with (first
  |(go_at_call 113;refine HX.out.ck (cH1 _) ?_;clear cH1;intro w2 HX2 c0 c1 c2 c3)
  |((with_reducible refine zH 4 35 rfl rfl (W.heap.size+1) 7 ((c.toNat:Int)-128) ((i:Int)+1) false ?_ ?_);exact⟨rfl,rfl,HX2.out.hd⟩)
  |((with_reducible refine zF 5 36 rfl rfl (W.heap.size+2) (0,0) ?_ ?_);exact⟨rfl,rfl,sx (by omega) HX2.out.flt⟩))
 have hf:=HX2.out.fin (hdC 7 ((c.toNat:Int)-128) ((i:Int)+1) false) (0,0)
 refine eoH results208 hf rfl rfl rfl ⟨?_,hf.2.2⟩
 rfl
theorem qjL (W:World)(bs:List UInt8)(fm d l _lim:Int)(i:Nat)(c:UInt8)(hc:bs[i]? = some c)(h1:qaz bs l i=true)(hlo:144≤(c.toNat:Int))(hhi:(c.toNat:Int)≤159)(hb:bs.length≤200000000):Calls prog 208 #[.agg (inA bs fm d l),.int .i64 i] W fun e W'=>e=.returned (.tuple #[.agg (hdC 6 ((c.toNat:Int)-144) ((i:Int)+1) false),.agg (qae (0,0))])∧Below W.heap.size W W':=by
 have hix:=qah bs i c hc
 have hib:=ltL hc
 have e192:=nec (c:=c) 192 (by omega)
 have e194:=nec (c:=c) 194 (by omega)
 have e195:=nec (c:=c) 195 (by omega)
 have e220:=nec (c:=c) 220 (by omega)
 have e221:=nec (c:=c) 221 (by omega)
 have e222:=nec (c:=c) 222 (by omega)
 have e223:=nec (c:=c) 223 (by omega)
 have cH1:=qap fm d h1
 have HX:=qat W bs fm d l
 clear h1 hc
 unfold inA
 go_enter func208,ntmps208
 go_wp2_with (first
  |(go_at_call 113;refine HX.out.ck (cH1 _) ?_;clear cH1;intro w2 HX2 c0 c1 c2 c3)
  |((with_reducible refine zH 4 44 rfl rfl (W.heap.size+1) 6 ((c.toNat:Int)-144) ((i:Int)+1) false ?_ ?_);exact⟨rfl,rfl,HX2.out.hd⟩)
  |((with_reducible refine zF 5 45 rfl rfl (W.heap.size+2) (0,0) ?_ ?_);exact⟨rfl,rfl,sx (by omega) HX2.out.flt⟩))
 have hf:=HX2.out.fin (hdC 6 ((c.toNat:Int)-144) ((i:Int)+1) false) (0,0)
 refine eoH results208 hf rfl rfl rfl ⟨?_,hf.2.2⟩
 rfl
theorem qkh (W:World)(bs:List UInt8)(fm d l _lim:Int)(i:Nat)(c:UInt8)(hc:bs[i]? = some c)(h1:qaz bs l i=true)(hlo:160≤(c.toNat:Int))(hhi:(c.toNat:Int)≤191)(hb:bs.length≤200000000):Calls prog 208 #[.agg (inA bs fm d l),.int .i64 i] W fun e W'=>e=.returned (.tuple #[.agg (hdC 4 ((c.toNat:Int)-160) ((i:Int)+1) false),.agg (qae (0,0))])∧Below W.heap.size W W':=by
 have hix:=qah bs i c hc
 have hib:=ltL hc
 have e192:=nec (c:=c) 192 (by omega)
 have e194:=nec (c:=c) 194 (by omega)
 have e195:=nec (c:=c) 195 (by omega)
 have e220:=nec (c:=c) 220 (by omega)
 have e221:=nec (c:=c) 221 (by omega)
 have e222:=nec (c:=c) 222 (by omega)
 have e223:=nec (c:=c) 223 (by omega)
 have cH1:=qap fm d h1
 have HX:=qat W bs fm d l
 clear h1 hc
 unfold inA
 go_enter func208,ntmps208
 go_wp2_with (first
  |(go_at_call 113;refine HX.out.ck (cH1 _) ?_;clear cH1;intro w2 HX2 c0 c1 c2 c3)
  |((with_reducible refine zH 4 53 rfl rfl (W.heap.size+1) 4 ((c.toNat:Int)-160) ((i:Int)+1) false ?_ ?_);exact⟨rfl,rfl,HX2.out.hd⟩)
  |((with_reducible refine zF 5 54 rfl rfl (W.heap.size+2) (0,0) ?_ ?_);exact⟨rfl,rfl,sx (by omega) HX2.out.flt⟩))
 have hf:=HX2.out.fin (hdC 4 ((c.toNat:Int)-160) ((i:Int)+1) false) (0,0)
 refine eoH results208 hf rfl rfl rfl ⟨?_,hf.2.2⟩
 rfl
theorem qjo (W:World)(bs:List UInt8)(fm d l _lim:Int)(i:Nat)(c:UInt8)(hc:bs[i]? = some c)(h1:qaz bs l i=true)(hlo:224≤(c.toNat:Int))(hhi:(c.toNat:Int)≤255)(hb:bs.length≤200000000):Calls prog 208 #[.agg (inA bs fm d l),.int .i64 i] W fun e W'=>e=.returned (.tuple #[.agg (hdC 3 ((c.toNat:Int)-256) ((i:Int)+1) false),.agg (qae (0,0))])∧Below W.heap.size W W':=by
 have hix:=qah bs i c hc
 have hib:=ltL hc
 have e192:=nec (c:=c) 192 (by omega)
 have e194:=nec (c:=c) 194 (by omega)
 have e195:=nec (c:=c) 195 (by omega)
 have e220:=nec (c:=c) 220 (by omega)
 have e221:=nec (c:=c) 221 (by omega)
 have e222:=nec (c:=c) 222 (by omega)
 have e223:=nec (c:=c) 223 (by omega)
 have cH1:=qap fm d h1
 have HX:=qat W bs fm d l
 clear h1 hc
 unfold inA
 go_enter func208,ntmps208
 go_wp2_with (first
  |(go_at_call 113;refine HX.out.ck (cH1 _) ?_;clear cH1;intro w2 HX2 c0 c1 c2 c3)
  |((with_reducible refine zH 4 183 rfl rfl (W.heap.size+1) 3 ((c.toNat:Int)-256) ((i:Int)+1) false ?_ ?_);exact⟨rfl,rfl,HX2.out.hd⟩)
  |((with_reducible refine zF 5 184 rfl rfl (W.heap.size+2) (0,0) ?_ ?_);exact⟨rfl,rfl,sx (by omega) HX2.out.flt⟩))
 have hf:=HX2.out.fin (hdC 3 ((c.toNat:Int)-256) ((i:Int)+1) false) (0,0)
 refine eoH results208 hf rfl rfl rfl ⟨?_,hf.2.2⟩
 rfl
theorem qhn (W:World)(bs:List UInt8)(fm d l _lim:Int)(i:Nat)(c:UInt8)(hc:bs[i]? = some c)(h1:qaz bs l i=true)(hv:c.toNat=192)(hb:bs.length≤200000000):Calls prog 208 #[.agg (inA bs fm d l),.int .i64 i] W fun e W'=>e=.returned (.tuple #[.agg (hdC 0 0 ((i:Int)+1) false),.agg (qae (0,0))])∧Below W.heap.size W W':=by
 have hix:=qdM hc hv
 have hib:=ltL hc
 have cH1:=qap fm d h1
 have HX:=qat W bs fm d l
 clear h1 hc hv
 unfold inA
 go_enter func208,ntmps208
 go_wp2_with (first
  |(go_at_call 113;refine HX.out.ck (cH1 _) ?_;clear cH1;intro w2 HX2 c0 c1 c2 c3)
  |((with_reducible refine zH 4 60 rfl rfl (W.heap.size+1) 0 0 ((i:Int)+1) false ?_ ?_);exact⟨rfl,rfl,HX2.out.hd⟩)
  |((with_reducible refine zF 5 61 rfl rfl (W.heap.size+2) (0,0) ?_ ?_);exact⟨rfl,rfl,sx (by omega) HX2.out.flt⟩))
 have hf:=HX2.out.fin (hdC 0 0 ((i:Int)+1) false) (0,0)
 refine eoH results208 hf rfl rfl rfl ⟨?_,hf.2.2⟩
 rfl
theorem qfZ (W:World)(bs:List UInt8)(fm d l _lim:Int)(i:Nat)(c:UInt8)(hc:bs[i]? = some c)(h1:qaz bs l i=true)(hv:c.toNat=194)(hb:bs.length≤200000000):Calls prog 208 #[.agg (inA bs fm d l),.int .i64 i] W fun e W'=>e=.returned (.tuple #[.agg (hdC 1 0 ((i:Int)+1) false),.agg (qae (0,0))])∧Below W.heap.size W W':=by
 have hix:=qdM hc hv
 have hib:=ltL hc
 have cH1:=qap fm d h1
 have HX:=qat W bs fm d l
 clear h1 hc hv
 unfold inA
 go_enter func208,ntmps208
 go_wp2_with (first
  |(go_at_call 113;refine HX.out.ck (cH1 _) ?_;clear cH1;intro w2 HX2 c0 c1 c2 c3)
  |((with_reducible refine zH 4 67 rfl rfl (W.heap.size+1) 1 0 ((i:Int)+1) false ?_ ?_);exact⟨rfl,rfl,HX2.out.hd⟩)
  |((with_reducible refine zF 5 68 rfl rfl (W.heap.size+2) (0,0) ?_ ?_);exact⟨rfl,rfl,sx (by omega) HX2.out.flt⟩))
 have hf:=HX2.out.fin (hdC 1 0 ((i:Int)+1) false) (0,0)
 refine eoH results208 hf rfl rfl rfl ⟨?_,hf.2.2⟩
 rfl
theorem qgJ (W:World)(bs:List UInt8)(fm d l _lim:Int)(i:Nat)(c:UInt8)(hc:bs[i]? = some c)(h1:qaz bs l i=true)(hv:c.toNat=195)(hb:bs.length≤200000000):Calls prog 208 #[.agg (inA bs fm d l),.int .i64 i] W fun e W'=>e=.returned (.tuple #[.agg (hdC 2 0 ((i:Int)+1) false),.agg (qae (0,0))])∧Below W.heap.size W W':=by
 have hix:=qdM hc hv
 have hib:=ltL hc
 have cH1:=qap fm d h1
 have HX:=qat W bs fm d l
 clear h1 hc hv
 unfold inA
 go_enter func208,ntmps208
 go_wp2_with (first
  |(go_at_call 113;refine HX.out.ck (cH1 _) ?_;clear cH1;intro w2 HX2 c0 c1 c2 c3)
  |((with_reducible refine zH 4 74 rfl rfl (W.heap.size+1) 2 0 ((i:Int)+1) false ?_ ?_);exact⟨rfl,rfl,HX2.out.hd⟩)
  |((with_reducible refine zF 5 75 rfl rfl (W.heap.size+2) (0,0) ?_ ?_);exact⟨rfl,rfl,sx (by omega) HX2.out.flt⟩))
 have hf:=HX2.out.fin (hdC 2 0 ((i:Int)+1) false) (0,0)
 refine eoH results208 hf rfl rfl rfl ⟨?_,hf.2.2⟩
 rfl
theorem qgP (W:World)(bs:List UInt8)(fm d l lim:Int)(i:Nat)(c:UInt8)(hc:bs[i]? = some c)(h1:qaz bs l i=true)(hv:c.toNat=196)(hl:Lm bs l lim)(hi:InR bs lim (i+1))(hb:bs.length≤200000000):Calls prog 208 #[.agg (inA bs fm d l),.int .i64 i] W fun e W'=>qaY (qa0 bs lim 1 (i+1) 0) 5 (fun nv=>nv) ((i:Int)+1+1) e∧Below W.heap.size W W':=by
 have hix:=qdM hc hv
 have hib:=ltL hc
 have cH1:=qap fm d h1
 have cP:=fun V=>qa1 V bs fm d l lim i 5 1 (by decide) hl hi hb
 unfold inA at cP
 have HX:=qat W bs fm d l
 have hil:=hi.1
 clear h1 hc hv hl hi
 unfold inA
 go_enter func208,ntmps208
 go_wp2_with (first
  |(go_at_call 113;refine HX.out.ck (cH1 _) ?_;clear cH1;intro w2 HX2 c0 c1 c2 c3))
 refine rgn (S:=fun Z=>Z.heap[W.heap.size]? = some (.cells (inA bs fm d l) 143)) (HX2.out.drew.box) (by kernel_rfl) ?_
 intro hS
 refine tk 0 83 (.agg #[.string ⟨bs.toArray⟩,.int .i64 fm,.int .i64 d,.int .i64 l]) rfl (by kernel_rfl) iQ3 (fun Z hZ=>yI 2 hZ rfl rfl) hS ?_
 refine tkk 1 84 (.int .i64 i) (by kernel_rfl) iQ3 hS ?_
 refine tkk 2 85 (.int .i64 196) (by kernel_rfl) iQ3 hS ?_
 refine tkk 3 86 (.int .i64 0) (by kernel_rfl) iQ3 hS ?_
 refine tkk 4 87 (.int .i64 1) (by kernel_rfl) iQ3 hS ?_
 refine rdH 5 rfl (by kernel_rfl) (fun K hK => ?_)
 go_simp
 refine(cP _).mono ?_
 rintro e w9 ⟨⟨nv,ov,F,rfl,hBI⟩,hB9⟩
 simp only[]
 have HX9:=qac (HX2.out.drew.next hB9)
 have HBI:Hid (qb8 (qa0 bs lim 1 (i+1) 0) nv ov F):=hBI
 have hS9:=HX9.out.box
 refine hK.out _ _ hS9 (fun _ => ?_)
 clear hK
 refine tkk 6 89 (.agg (hdC 5 nv ((i:Int)+1+1) ov)) (by kernel_rfl) iQ3 hS9 ?_
 refine tkk 7 90 (.agg (qae F)) (by kernel_rfl) iQ3 hS9 ?_
 have hT9:=(setRow_other _ (W.heap.size+1) W.heap.size (hdC 5 nv ((i:Int)+1+1) ov) (by omega)).trans hS9
 refine sH 8 4 89 (W.heap.size+1) 5 nv ((i:Int)+1+1) ov (by kernel_rfl) (HX9.out.hd) (hT9) ?_
 refine sF 9 5 90 (W.heap.size+2) F (by kernel_rfl) (sx (by omega) HX9.out.flt) (sx (by omega) hT9) ?_
 refine wpAnyH_done (by kernel_rfl) ?_ _
 go_simp
 go_wp2
 have hf:=HX9.out.fin (hdC 5 nv ((i:Int)+1+1) ov) (F)
 refine eoH results208 hf rfl rfl rfl ⟨?_,hf.2.2⟩
 exact⟨nv,ov,F,rfl,HBI.out⟩
theorem qgU (W:World)(bs:List UInt8)(fm d l lim:Int)(i:Nat)(c:UInt8)(hc:bs[i]? = some c)(h1:qaz bs l i=true)(hv:c.toNat=197)(hl:Lm bs l lim)(hi:InR bs lim (i+1))(hb:bs.length≤200000000):Calls prog 208 #[.agg (inA bs fm d l),.int .i64 i] W fun e W'=>qaY (qa0 bs lim 2 (i+1) 0) 5 (fun nv=>nv) ((i:Int)+1+2) e∧Below W.heap.size W W':=by
 have hix:=qdM hc hv
 have hib:=ltL hc
 have cH1:=qap fm d h1
 have cP:=fun V=>qa1 V bs fm d l lim i 5 2 (by decide) hl hi hb
 unfold inA at cP
 have HX:=qat W bs fm d l
 have hil:=hi.1
 clear h1 hc hv hl hi
 unfold inA
 go_enter func208,ntmps208
 go_wp2_with (first
  |(go_at_call 113;refine HX.out.ck (cH1 _) ?_;clear cH1;intro w2 HX2 c0 c1 c2 c3))
 refine rgn (S:=fun Z=>Z.heap[W.heap.size]? = some (.cells (inA bs fm d l) 143)) (HX2.out.drew.box) (by kernel_rfl) ?_
 intro hS
 refine tk 0 83 (.agg #[.string ⟨bs.toArray⟩,.int .i64 fm,.int .i64 d,.int .i64 l]) rfl (by kernel_rfl) iQ3 (fun Z hZ=>yI 2 hZ rfl rfl) hS ?_
 refine tkk 1 84 (.int .i64 i) (by kernel_rfl) iQ3 hS ?_
 refine tkk 2 85 (.int .i64 197) (by kernel_rfl) iQ3 hS ?_
 refine tkk 3 86 (.int .i64 1) (by kernel_rfl) iQ3 hS ?_
 refine tkk 4 87 (.int .i64 2) (by kernel_rfl) iQ3 hS ?_
 refine rdH 5 rfl (by kernel_rfl) (fun K hK => ?_)
 go_simp
 refine(cP _).mono ?_
 rintro e w9 ⟨⟨nv,ov,F,rfl,hBI⟩,hB9⟩
 simp only[]
 have HX9:=qac (HX2.out.drew.next hB9)
 have HBI:Hid (qb8 (qa0 bs lim 2 (i+1) 0) nv ov F):=hBI
 have hS9:=HX9.out.box
 refine hK.out _ _ hS9 (fun _ => ?_)
 clear hK
 refine tkk 6 89 (.agg (hdC 5 nv ((i:Int)+1+2) ov)) (by kernel_rfl) iQ3 hS9 ?_
 refine tkk 7 90 (.agg (qae F)) (by kernel_rfl) iQ3 hS9 ?_
 have hT9:=(setRow_other _ (W.heap.size+1) W.heap.size (hdC 5 nv ((i:Int)+1+2) ov) (by omega)).trans hS9
 refine sH 8 4 89 (W.heap.size+1) 5 nv ((i:Int)+1+2) ov (by kernel_rfl) (HX9.out.hd) (hT9) ?_
 refine sF 9 5 90 (W.heap.size+2) F (by kernel_rfl) (sx (by omega) HX9.out.flt) (sx (by omega) hT9) ?_
 refine wpAnyH_done (by kernel_rfl) ?_ _
 go_simp
 go_wp2
 have hf:=HX9.out.fin (hdC 5 nv ((i:Int)+1+2) ov) (F)
 refine eoH results208 hf rfl rfl rfl ⟨?_,hf.2.2⟩
 exact⟨nv,ov,F,rfl,HBI.out⟩
theorem qgG (W:World)(bs:List UInt8)(fm d l lim:Int)(i:Nat)(c:UInt8)(hc:bs[i]? = some c)(h1:qaz bs l i=true)(hv:c.toNat=198)(hl:Lm bs l lim)(hi:InR bs lim (i+1))(hb:bs.length≤200000000):Calls prog 208 #[.agg (inA bs fm d l),.int .i64 i] W fun e W'=>qaY (qa0 bs lim 4 (i+1) 0) 5 (fun nv=>nv) ((i:Int)+1+4) e∧Below W.heap.size W W':=by
 have hix:=qdM hc hv
 have hib:=ltL hc
 have cH1:=qap fm d h1
 have cP:=fun V=>qa1 V bs fm d l lim i 5 4 (by decide) hl hi hb
 unfold inA at cP
 have HX:=qat W bs fm d l
 have hil:=hi.1
 clear h1 hc hv hl hi
 unfold inA
 go_enter func208,ntmps208
 go_wp2_with (first
  |(go_at_call 113;refine HX.out.ck (cH1 _) ?_;clear cH1;intro w2 HX2 c0 c1 c2 c3))
 refine rgn (S:=fun Z=>Z.heap[W.heap.size]? = some (.cells (inA bs fm d l) 143)) (HX2.out.drew.box) (by kernel_rfl) ?_
 intro hS
 refine tk 0 83 (.agg #[.string ⟨bs.toArray⟩,.int .i64 fm,.int .i64 d,.int .i64 l]) rfl (by kernel_rfl) iQ3 (fun Z hZ=>yI 2 hZ rfl rfl) hS ?_
 refine tkk 1 84 (.int .i64 i) (by kernel_rfl) iQ3 hS ?_
 refine tkk 2 85 (.int .i64 198) (by kernel_rfl) iQ3 hS ?_
 refine tkk 3 86 (.int .i64 2) (by kernel_rfl) iQ3 hS ?_
 refine tkk 4 87 (.int .i64 4) (by kernel_rfl) iQ3 hS ?_
 refine rdH 5 rfl (by kernel_rfl) (fun K hK => ?_)
 go_simp
 refine(cP _).mono ?_
 rintro e w9 ⟨⟨nv,ov,F,rfl,hBI⟩,hB9⟩
 simp only[]
 have HX9:=qac (HX2.out.drew.next hB9)
 have HBI:Hid (qb8 (qa0 bs lim 4 (i+1) 0) nv ov F):=hBI
 have hS9:=HX9.out.box
 refine hK.out _ _ hS9 (fun _ => ?_)
 clear hK
 refine tkk 6 89 (.agg (hdC 5 nv ((i:Int)+1+4) ov)) (by kernel_rfl) iQ3 hS9 ?_
 refine tkk 7 90 (.agg (qae F)) (by kernel_rfl) iQ3 hS9 ?_
 have hT9:=(setRow_other _ (W.heap.size+1) W.heap.size (hdC 5 nv ((i:Int)+1+4) ov) (by omega)).trans hS9
 refine sH 8 4 89 (W.heap.size+1) 5 nv ((i:Int)+1+4) ov (by kernel_rfl) (HX9.out.hd) (hT9) ?_
 refine sF 9 5 90 (W.heap.size+2) F (by kernel_rfl) (sx (by omega) HX9.out.flt) (sx (by omega) hT9) ?_
 refine wpAnyH_done (by kernel_rfl) ?_ _
 go_simp
 go_wp2
 have hf:=HX9.out.fin (hdC 5 nv ((i:Int)+1+4) ov) (F)
 refine eoH results208 hf rfl rfl rfl ⟨?_,hf.2.2⟩
 exact⟨nv,ov,F,rfl,HBI.out⟩
theorem qgr (W:World)(bs:List UInt8)(fm d l lim:Int)(i:Nat)(c:UInt8)(hc:bs[i]? = some c)(h1:qaz bs l i=true)(hv:c.toNat=204)(hl:Lm bs l lim)(hi:InR bs lim (i+1))(hb:bs.length≤200000000):Calls prog 208 #[.agg (inA bs fm d l),.int .i64 i] W fun e W'=>qaY (qa0 bs lim 1 (i+1) 0) 3 (fun nv=>nv) ((i:Int)+1+1) e∧Below W.heap.size W W':=by
 have hix:=qdM hc hv
 have hib:=ltL hc
 have cH1:=qap fm d h1
 have cP:=fun V=>qa1 V bs fm d l lim i 3 1 (by decide) hl hi hb
 unfold inA at cP
 have HX:=qat W bs fm d l
 have hil:=hi.1
 clear h1 hc hv hl hi
 unfold inA
 go_enter func208,ntmps208
 go_wp2_with (first
  |(go_at_call 113;refine HX.out.ck (cH1 _) ?_;clear cH1;intro w2 HX2 c0 c1 c2 c3))
 refine rgn (S:=fun Z=>Z.heap[W.heap.size]? = some (.cells (inA bs fm d l) 143)) (HX2.out.drew.box) (by kernel_rfl) ?_
 intro hS
 refine tk 0 98 (.agg #[.string ⟨bs.toArray⟩,.int .i64 fm,.int .i64 d,.int .i64 l]) rfl (by kernel_rfl) iQ3 (fun Z hZ=>yI 2 hZ rfl rfl) hS ?_
 refine tkk 1 99 (.int .i64 i) (by kernel_rfl) iQ3 hS ?_
 refine tkk 2 100 (.int .i64 204) (by kernel_rfl) iQ3 hS ?_
 refine tkk 3 101 (.int .i64 0) (by kernel_rfl) iQ3 hS ?_
 refine tkk 4 102 (.int .i64 1) (by kernel_rfl) iQ3 hS ?_
 refine rdH 5 rfl (by kernel_rfl) (fun K hK => ?_)
 go_simp
 refine(cP _).mono ?_
 rintro e w9 ⟨⟨nv,ov,F,rfl,hBI⟩,hB9⟩
 simp only[]
 have HX9:=qac (HX2.out.drew.next hB9)
 have HBI:Hid (qb8 (qa0 bs lim 1 (i+1) 0) nv ov F):=hBI
 have hS9:=HX9.out.box
 refine hK.out _ _ hS9 (fun _ => ?_)
 clear hK
 refine tkk 6 104 (.agg (hdC 3 nv ((i:Int)+1+1) ov)) (by kernel_rfl) iQ3 hS9 ?_
 refine tkk 7 105 (.agg (qae F)) (by kernel_rfl) iQ3 hS9 ?_
 have hT9:=(setRow_other _ (W.heap.size+1) W.heap.size (hdC 3 nv ((i:Int)+1+1) ov) (by omega)).trans hS9
 refine sH 8 4 104 (W.heap.size+1) 3 nv ((i:Int)+1+1) ov (by kernel_rfl) (HX9.out.hd) (hT9) ?_
 refine sF 9 5 105 (W.heap.size+2) F (by kernel_rfl) (sx (by omega) HX9.out.flt) (sx (by omega) hT9) ?_
 refine wpAnyH_done (by kernel_rfl) ?_ _
 go_simp
 go_wp2
 have hf:=HX9.out.fin (hdC 3 nv ((i:Int)+1+1) ov) (F)
 refine eoH results208 hf rfl rfl rfl ⟨?_,hf.2.2⟩
 exact⟨nv,ov,F,rfl,HBI.out⟩
theorem qg8 (W:World)(bs:List UInt8)(fm d l lim:Int)(i:Nat)(c:UInt8)(hc:bs[i]? = some c)(h1:qaz bs l i=true)(hv:c.toNat=205)(hl:Lm bs l lim)(hi:InR bs lim (i+1))(hb:bs.length≤200000000):Calls prog 208 #[.agg (inA bs fm d l),.int .i64 i] W fun e W'=>qaY (qa0 bs lim 2 (i+1) 0) 3 (fun nv=>nv) ((i:Int)+1+2) e∧Below W.heap.size W W':=by
 have hix:=qdM hc hv
 have hib:=ltL hc
 have cH1:=qap fm d h1
 have cP:=fun V=>qa1 V bs fm d l lim i 3 2 (by decide) hl hi hb
 unfold inA at cP
 have HX:=qat W bs fm d l
 have hil:=hi.1
 clear h1 hc hv hl hi
 unfold inA
 go_enter func208,ntmps208
 go_wp2_with (first
  |(go_at_call 113;refine HX.out.ck (cH1 _) ?_;clear cH1;intro w2 HX2 c0 c1 c2 c3))
 refine rgn (S:=fun Z=>Z.heap[W.heap.size]? = some (.cells (inA bs fm d l) 143)) (HX2.out.drew.box) (by kernel_rfl) ?_
 intro hS
 refine tk 0 98 (.agg #[.string ⟨bs.toArray⟩,.int .i64 fm,.int .i64 d,.int .i64 l]) rfl (by kernel_rfl) iQ3 (fun Z hZ=>yI 2 hZ rfl rfl) hS ?_
 refine tkk 1 99 (.int .i64 i) (by kernel_rfl) iQ3 hS ?_
 refine tkk 2 100 (.int .i64 205) (by kernel_rfl) iQ3 hS ?_
 refine tkk 3 101 (.int .i64 1) (by kernel_rfl) iQ3 hS ?_
 refine tkk 4 102 (.int .i64 2) (by kernel_rfl) iQ3 hS ?_
 refine rdH 5 rfl (by kernel_rfl) (fun K hK => ?_)
 go_simp
 refine(cP _).mono ?_
 rintro e w9 ⟨⟨nv,ov,F,rfl,hBI⟩,hB9⟩
 simp only[]
 have HX9:=qac (HX2.out.drew.next hB9)
 have HBI:Hid (qb8 (qa0 bs lim 2 (i+1) 0) nv ov F):=hBI
 have hS9:=HX9.out.box
 refine hK.out _ _ hS9 (fun _ => ?_)
 clear hK
 refine tkk 6 104 (.agg (hdC 3 nv ((i:Int)+1+2) ov)) (by kernel_rfl) iQ3 hS9 ?_
 refine tkk 7 105 (.agg (qae F)) (by kernel_rfl) iQ3 hS9 ?_
 have hT9:=(setRow_other _ (W.heap.size+1) W.heap.size (hdC 3 nv ((i:Int)+1+2) ov) (by omega)).trans hS9
 refine sH 8 4 104 (W.heap.size+1) 3 nv ((i:Int)+1+2) ov (by kernel_rfl) (HX9.out.hd) (hT9) ?_
 refine sF 9 5 105 (W.heap.size+2) F (by kernel_rfl) (sx (by omega) HX9.out.flt) (sx (by omega) hT9) ?_
 refine wpAnyH_done (by kernel_rfl) ?_ _
 go_simp
 go_wp2
 have hf:=HX9.out.fin (hdC 3 nv ((i:Int)+1+2) ov) (F)
 refine eoH results208 hf rfl rfl rfl ⟨?_,hf.2.2⟩
 exact⟨nv,ov,F,rfl,HBI.out⟩
end
end Go.Proofs.YtllcbnfmihfaaaaGreatDoor
