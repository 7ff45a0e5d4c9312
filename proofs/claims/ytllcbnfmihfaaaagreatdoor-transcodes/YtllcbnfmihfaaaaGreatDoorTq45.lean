import Derived.Test.YtllcbnfmihfaaaaGreatDoorTq31
set_option maxRecDepth 100000
set_option maxHeartbeats 8000000
namespace Go.Proofs.YtllcbnfmihfaaaaGreatDoor
open Go.Proofs.Tryz
variable {R:Except (Int×Int) (Nat×Nat×Nat×Nat)}{i u w x:Nat}{bs:List UInt8}
section
open Go.RowKit Go.Lib
theorem q0h (W:World)(bs:List UInt8)(fm d l:Int)(i:Nat)(x:Int×Int)(h2:qr0 bs l i 9=x)(hS:qxM R (.returned (.tuple #[.agg (hdC 0 0 0 false),.agg (qqp x)])))(hw:qyb bs l i=false∨(qyb bs l i=true∧∃c,bs[i]? = some c∧(c.toNat=193∨(199≤(c.toNat:Int)∧(c.toNat:Int)≤203)∨(212≤(c.toNat:Int)∧(c.toNat:Int)≤216)))):Calls prog 208 #[.agg (inA bs fm d l),.int .i64 i] W fun e W'=>qxM R e∧Below W.heap.size W W':=by
 have cB1:=q11 fm d h2;have HX:=qyH W bs fm d l;have HS:=qaa hS;clear h2 hS;unfold inA;rcases hw with h1|⟨h1,c,hc,hw|⟨hlo,hhi⟩|⟨hlo,hhi⟩⟩
 all_goals
  have cH1:=qyz fm d h1;clear h1
  try
   have hib:=ltL hc
   first
    |(have hix:=q49 hc hw;clear hw)
    |(have hix:=qxH bs i c hc;have e192:=nec (c:=c) 192 (by omega);have e194:=nec (c:=c) 194 (by omega);have e195:=nec (c:=c) 195 (by omega);have e220:=nec (c:=c) 220 (by omega);have e221:=nec (c:=c) 221 (by omega);have e222:=nec (c:=c) 222 (by omega);have e223:=nec (c:=c) 223 (by omega))
   clear hc
  go_enter func208,ntmps208
  go_wp2_with (first
   |(go_at_call 113;refine HX.out.ck (cH1 _) ?_;clear cH1;intro w2 HX2 c0 c1 c2 c3)
   |(go_at_call 71;refine(cB1 _).mono ?_;clear cB1 c0 c1 c2 c3;rintro e w3 ⟨rfl,hB3⟩;have HX3:Hid (qzT W (inA bs fm d l) w3):=HX2.out.next hB3)
   |((with_reducible refine zH 4 _ rfl rfl (W.heap.size+1) 0 0 0 false ?_ ?_);exact⟨rfl,rfl,HX3.out.hd⟩)
   |((with_reducible refine zF 5 _ rfl rfl (W.heap.size+2) x ?_ ?_);exact⟨rfl,rfl,sx (by omega) HX3.out.flt⟩))
  refine eoH results208 (HX3.out.fin _ _) rfl rfl rfl ⟨HS.out,(HX3.out.fin _ _).2.2⟩
theorem qyn (W:World)(bs:List UInt8)(fm d l:Int)(i:Nat)(c:UInt8)(hc:bs[i]? = some c)(h1:qyb bs l i=true)(hb:bs.length≤200000000)(K N:Int)(hS:qxM R (.returned (.tuple #[.agg (hdC K N ((i:Int)+1) false),.agg (qqp (0,0))])))(hw:(((c.toNat:Int)<128)∧K=3∧N=(c.toNat:Int))∨((128≤(c.toNat:Int)∧(c.toNat:Int)<144)∧K=7∧N=(c.toNat:Int)-128)∨((144≤(c.toNat:Int)∧(c.toNat:Int)<160)∧K=6∧N=(c.toNat:Int)-144)∨((160≤(c.toNat:Int)∧(c.toNat:Int)<192)∧K=4∧N=(c.toNat:Int)-160)∨((224≤(c.toNat:Int))∧K=3∧N=(c.toNat:Int)-256)∨(c.toNat=192∧K=0∧N=0)∨(c.toNat=194∧K=1∧N=0)∨(c.toNat=195∧K=2∧N=0)):Calls prog 208 #[.agg (inA bs fm d l),.int .i64 i] W fun e W'=>qxM R e∧Below W.heap.size W W':=by
 have hib:=ltL hc;have hc255:=c.toNat_lt;have cH1:=qyz fm d h1;have HX:=qyH W bs fm d l;have HS:=qaa hS;clear h1 hS;unfold inA;rcases hw with ⟨hw,rfl,rfl⟩|⟨hw,rfl,rfl⟩|⟨hw,rfl,rfl⟩|⟨hw,rfl,rfl⟩|⟨hw,rfl,rfl⟩|⟨hw,rfl,rfl⟩|⟨hw,rfl,rfl⟩|⟨hw,rfl,rfl⟩
 all_goals
  first
   |(have hix:=q49 hc hw;clear hw)
   |(have hix:=qxH bs i c hc;obtain⟨hlo,hhi⟩:=hw)
   |(have hix:=qxH bs i c hc;try (have e192:=nec (c:=c) 192 (by omega);have e194:=nec (c:=c) 194 (by omega);have e195:=nec (c:=c) 195 (by omega);have e220:=nec (c:=c) 220 (by omega);have e221:=nec (c:=c) 221 (by omega);have e222:=nec (c:=c) 222 (by omega);have e223:=nec (c:=c) 223 (by omega)))
  clear hc;go_enter func208,ntmps208
  go_wp2_with (first
   |(go_at_call 113;refine HX.out.ck (cH1 _) ?_;clear cH1;intro w2 HX2 c0 c1 c2 c3)
   |((with_reducible refine zH 4 _ rfl rfl (W.heap.size+1) 3 ((c.toNat:Int)) ((i:Int)+1) false ?_ ?_);exact⟨rfl,rfl,HX2.out.hd⟩)
   |((with_reducible refine zH 4 _ rfl rfl (W.heap.size+1) 7 ((c.toNat:Int)-128) ((i:Int)+1) false ?_ ?_);exact⟨rfl,rfl,HX2.out.hd⟩)
   |((with_reducible refine zH 4 _ rfl rfl (W.heap.size+1) 6 ((c.toNat:Int)-144) ((i:Int)+1) false ?_ ?_);exact⟨rfl,rfl,HX2.out.hd⟩)
   |((with_reducible refine zH 4 _ rfl rfl (W.heap.size+1) 4 ((c.toNat:Int)-160) ((i:Int)+1) false ?_ ?_);exact⟨rfl,rfl,HX2.out.hd⟩)
   |((with_reducible refine zH 4 _ rfl rfl (W.heap.size+1) 3 ((c.toNat:Int)-256) ((i:Int)+1) false ?_ ?_);exact⟨rfl,rfl,HX2.out.hd⟩)
   |((with_reducible refine zH 4 _ rfl rfl (W.heap.size+1) 0 (0) ((i:Int)+1) false ?_ ?_);exact⟨rfl,rfl,HX2.out.hd⟩)
   |((with_reducible refine zH 4 _ rfl rfl (W.heap.size+1) 1 (0) ((i:Int)+1) false ?_ ?_);exact⟨rfl,rfl,HX2.out.hd⟩)
   |((with_reducible refine zH 4 _ rfl rfl (W.heap.size+1) 2 (0) ((i:Int)+1) false ?_ ?_);exact⟨rfl,rfl,HX2.out.hd⟩)
   |((with_reducible refine zF 5 _ rfl rfl (W.heap.size+2) (0,0) ?_ ?_);exact⟨rfl,rfl,sx (by omega) HX2.out.flt⟩))
  refine eoH results208 (HX2.out.fin _ _) rfl rfl rfl ⟨HS.out,(HX2.out.fin _ _).2.2⟩
theorem q2e (W:World)(bs:List UInt8)(fm d l:Int)(i:Nat)(c:UInt8)(hc:bs[i]? = some c)(h1:qyb bs l i=true)(_hb:bs.length≤200000000)(v:Nat)(kd k:Int)(hv:c.toNat=v)(hw:(v,kd,k)∈([(196,5,1),(197,5,2),(198,5,4),(204,3,1),(205,3,2),(206,3,4),(207,3,8),(217,4,1),(218,4,2),(219,4,4)]:List (Nat×Int×Int)))(cP:∀V,Calls prog 232 #[.agg (inA bs fm d l),.int .i64 i,.int .i64 kd,.int .i64 k] V fun e W'=>qxM R e∧Below V.heap.size V W'):Calls prog 208 #[.agg (inA bs fm d l),.int .i64 i] W fun e W'=>qxM R e∧Below W.heap.size W W':=by
 have hix:=q49 hc hv;have hib:=ltL hc;have cH1:=qyz fm d h1;have HX:=qyH W bs fm d l;clear h1 hc hv;unfold inA at *;simp only[List.mem_cons,Prod.mk.injEq,List.not_mem_nil,or_false] at hw;rcases hw with h|h|h|h|h|h|h|h|h|h
 all_goals
  obtain⟨rfl,rfl,rfl⟩:=h
 let vi:Int:=196;let s:Int:=0;let k:Int:=1;let b:Nat:=83;rotate_left
 let vi:Int:=197;let s:Int:=1;let k:Int:=2;let b:Nat:=83;rotate_left
 let vi:Int:=198;let s:Int:=2;let k:Int:=4;let b:Nat:=83;rotate_left
 let vi:Int:=204;let s:Int:=0;let k:Int:=1;let b:Nat:=98;rotate_left
 let vi:Int:=205;let s:Int:=1;let k:Int:=2;let b:Nat:=98;rotate_left
 let vi:Int:=206;let s:Int:=2;let k:Int:=4;let b:Nat:=98;rotate_left
 let vi:Int:=207;let s:Int:=3;let k:Int:=8;let b:Nat:=98;rotate_left
 let vi:Int:=217;let s:Int:=0;let k:Int:=1;let b:Nat:=138;rotate_left
 let vi:Int:=218;let s:Int:=1;let k:Int:=2;let b:Nat:=138;rotate_left
 let vi:Int:=219;let s:Int:=2;let k:Int:=4;let b:Nat:=138;rotate_left
 all_goals
  go_enter func208,ntmps208
  go_wp2_with (first
   |(go_at_call 113;refine HX.out.ck (cH1 _) ?_;clear cH1;intro w2 HX2 c0 c1 c2 c3))
  refine rgn (S:=fun Z=>Z.heap[W.heap.size]? = some (.cells (inA bs fm d l) 143)) (HX2.out.drew.box) (by kernel_rfl) ?_;intro hS;refine tk 0 b (.agg #[.string ⟨bs.toArray⟩,.int .i64 fm,.int .i64 d,.int .i64 l]) rfl (by kernel_rfl) iQ3 (fun Z hZ=>yI 2 hZ rfl rfl) hS ?_;refine tkk 1 (b+1) (.int .i64 i) (by kernel_rfl) iQ3 hS ?_;refine tkk 2 (b+2) (.int .i64 vi) (by kernel_rfl) iQ3 hS ?_;refine tkk 3 (b+3) (.int .i64 s) (by kernel_rfl) iQ3 hS ?_;refine tkk 4 (b+4) (.int .i64 k) (by kernel_rfl) iQ3 hS ?_;refine rdH 5 rfl (by kernel_rfl) (fun K hK => ?_);go_simp;refine(cP _).mono ?_;rintro e w9 ⟨⟨a,n,q,o,F,rfl,hBI⟩,hB9⟩;simp only[];have HX9:=qaa (HX2.out.drew.next hB9);have HS:=qaa (show qxM R (.returned (.tuple #[.agg (hdC a n q o),.agg (qqp F)])) from⟨a,n,q,o,F,rfl,hBI⟩);have hS9:=HX9.out.box;refine hK.out _ _ hS9 (fun _ => ?_);clear hK;refine tkk 6 (b+6) (.agg (hdC a n q o)) (by kernel_rfl) iQ3 hS9 ?_;refine tkk 7 (b+7) (.agg (qqp F)) (by kernel_rfl) iQ3 hS9 ?_;have hT9:=(setRow_other _ (W.heap.size+1) W.heap.size (hdC a n q o) (by omega)).trans hS9;refine sH 8 4 (b+6) (W.heap.size+1) a n q o (by kernel_rfl) (HX9.out.hd) (hT9) ?_;refine sF 9 5 (b+7) (W.heap.size+2) F (by kernel_rfl) (sx (by omega) HX9.out.flt) (sx (by omega) hT9) ?_;refine wpAnyH_done (by kernel_rfl) ?_ _;dsimp only [b];go_simp;go_wp2;refine eoH results208 (HX9.out.fin _ _) rfl rfl rfl ⟨HS.out,(HX9.out.fin _ _).2.2⟩
theorem q1N (W:World)(bs:List UInt8)(fm d l:Int)(i:Nat)(c:UInt8)(hc:bs[i]? = some c)(h1:qyb bs l i=true)(_hb:bs.length≤200000000)(v:Nat)(kd k:Int)(hv:c.toNat=v)(hw:(v,kd,k)∈([(220,6,2),(221,6,4),(222,7,2),(223,7,4)]:List (Nat×Int×Int)))(cP:∀V,Calls prog 232 #[.agg (inA bs fm d l),.int .i64 i,.int .i64 kd,.int .i64 k] V fun e W'=>qxM R e∧Below V.heap.size V W'):Calls prog 208 #[.agg (inA bs fm d l),.int .i64 i] W fun e W'=>qxM R e∧Below W.heap.size W W':=by
 have hix:=q49 hc hv;have hib:=ltL hc;have cH1:=qyz fm d h1;have HX:=qyH W bs fm d l;clear h1 hc hv;unfold inA at *;simp only[List.mem_cons,Prod.mk.injEq,List.not_mem_nil,or_false] at hw;rcases hw with h|h|h|h
 all_goals
  obtain⟨rfl,rfl,rfl⟩:=h;go_enter func208,ntmps208
  go_wp2_with (first
   |(go_at_call 113;refine HX.out.ck (cH1 _) ?_;clear cH1;intro w2 HX2 c0 c1 c2 c3)
   |(go_at_call 232;refine(cP _).mono ?_;clear cP c0 c1 c2 c3;rintro e w9 ⟨⟨a,n,q,o,F,rfl,hBI⟩,hB9⟩;have HX9:=qaa (HX2.out.next hB9);have HS:=qaa (show qxM R (.returned (.tuple #[.agg (hdC a n q o),.agg (qqp F)])) from⟨a,n,q,o,F,rfl,hBI⟩);clear hBI)
   |((with_reducible refine zH 4 _ rfl rfl (W.heap.size+1) a n q o ?_ ?_);exact⟨rfl,rfl,HX9.out.hd⟩)
   |((with_reducible refine zF 5 _ rfl rfl (W.heap.size+2) F ?_ ?_);exact⟨rfl,rfl,sx (by omega) HX9.out.flt⟩))
  refine eoH results208 (HX9.out.fin _ _) rfl rfl rfl ⟨HS.out,(HX9.out.fin _ _).2.2⟩
theorem q1S (W:World)(bs:List UInt8)(fm d l:Int)(i:Nat)(c:UInt8)(hc:bs[i]? = some c)(h1:qyb bs l i=true)(_hb:bs.length≤200000000)(v:Nat)(k:Int)(hv:c.toNat=v)(hw:(v,k)∈([(208,1),(209,2),(210,4),(211,8)]:List (Nat×Int)))(hx:(qyb bs l (i+1)=false∧qxM R (.returned (.tuple #[.agg (hdC 0 0 0 false),.agg (qqp (qr0 bs l (i+1) 9))])))∨(qyb bs l (i+1)=true∧∀V,Calls prog 233 #[.agg (inA bs fm d l),.int .i64 i,.int .i64 k] V fun e W'=>qxM R e∧Below V.heap.size V W')):Calls prog 208 #[.agg (inA bs fm d l),.int .i64 i] W fun e W'=>qxM R e∧Below W.heap.size W W':=by
 have hix:=q49 hc hv;have hib:=ltL hc;have cH1:=qyz fm d h1;have HX:=qyH W bs fm d l;have hh:(∀V,Calls prog 113 #[.agg #[.string ⟨bs.toArray⟩,.int .i64 fm,.int .i64 d,.int .i64 l],.int .i64 ((i:Int)+1)] V fun e W'=>e=.returned (.bool false)∧Below V.heap.size V W')∧(∀V,Calls prog 71 #[.agg #[.string ⟨bs.toArray⟩,.int .i64 fm,.int .i64 d,.int .i64 l],.int .i64 ((i:Int)+1),.int .i64 9] V fun e W'=>e=.returned (.agg (qqp (qr0 bs l (i+1) 9)))∧Below V.heap.size V W')∧Hid (qxM R (.returned (.tuple #[.agg (hdC 0 0 0 false),.agg (qqp (qr0 bs l (i+1) 9))])))∨(∀V,Calls prog 113 #[.agg #[.string ⟨bs.toArray⟩,.int .i64 fm,.int .i64 d,.int .i64 l],.int .i64 ((i:Int)+1)] V fun e W'=>e=.returned (.bool true)∧Below V.heap.size V W')∧(∀V,Calls prog 233 #[.agg (inA bs fm d l),.int .i64 i,.int .i64 k] V fun e W'=>qxM R e∧Below V.heap.size V W') :=
  hx.imp (fun h=>⟨fun V=>qyz fm d h.1 V,fun V=>qyv V bs fm d l (i+1) 9,h.2⟩) (fun h=>⟨fun V=>qyz fm d h.1 V,h.2⟩)
 generalize qr0 bs l (i+1) 9=x at hh;clear h1 hc hv hx;unfold inA at *;simp only[List.mem_cons,Prod.mk.injEq,List.not_mem_nil,or_false] at hw;rcases hw with h|h|h|h
 all_goals
  obtain⟨rfl,rfl⟩:=h
 let vi:Int:=208;let s:Int:=0;let k:Int:=1;rotate_left
 let vi:Int:=209;let s:Int:=1;let k:Int:=2;rotate_left
 let vi:Int:=210;let s:Int:=2;let k:Int:=4;rotate_left
 let vi:Int:=211;let s:Int:=3;let k:Int:=8;rotate_left
 all_goals
  rcases hh with ⟨cH2,cB1,HS⟩|⟨cH2,cP⟩
 all_goals
  go_enter func208,ntmps208
  go_wp2_with (first
   |(go_at_call 113;refine HX.out.ck (cH1 _) ?_;clear cH1;intro w2 HX2 c0 c1 c2 c3)
   |(go_at_call 113;refine HX2.out.ck (cH2 _) ?_;clear cH2 c0 c1 c2 c3;intro w4 HX4 c0 c1 c2 c3)
   |(go_at_call 71;refine HX4.out.ck (cB1 _) ?_;clear cB1 c0 c1 c2 c3;intro w3 HX3 c0 c1 c2 c3)
   |((with_reducible refine zH 4 _ rfl rfl (W.heap.size+1) 0 0 0 false ?_ ?_);exact⟨rfl,rfl,HX3.out.hd⟩)
   |((with_reducible refine zF 5 _ rfl rfl (W.heap.size+2) x ?_ ?_);exact⟨rfl,rfl,sx (by omega) HX3.out.flt⟩))
  try refine eoH results208 (HX3.out.fin _ _) rfl rfl rfl ⟨HS.out,(HX3.out.fin _ _).2.2⟩
 all_goals
  refine rgn (S:=fun Z=>Z.heap[W.heap.size]? = some (.cells (inA bs fm d l) 143)) (HX4.out.drew.box) (by kernel_rfl) ?_;intro hS;refine tk 0 123 (.agg #[.string ⟨bs.toArray⟩,.int .i64 fm,.int .i64 d,.int .i64 l]) rfl (by kernel_rfl) iQ3 (fun Z hZ=>yI 2 hZ rfl rfl) hS ?_;refine tkk 1 124 (.int .i64 i) (by kernel_rfl) iQ3 hS ?_;refine tkk 2 125 (.int .i64 vi) (by kernel_rfl) iQ3 hS ?_;refine tkk 3 126 (.int .i64 s) (by kernel_rfl) iQ3 hS ?_;refine tkk 4 127 (.int .i64 k) (by kernel_rfl) iQ3 hS ?_;refine rdH 5 rfl (by kernel_rfl) (fun K hK => ?_);go_simp;refine(cP _).mono ?_;rintro e w9 ⟨⟨a,n,q,o,F,rfl,hBI⟩,hB9⟩;simp only[];have HX9:=qaa (HX4.out.drew.next hB9);have HS:=qaa (show qxM R (.returned (.tuple #[.agg (hdC a n q o),.agg (qqp F)])) from⟨a,n,q,o,F,rfl,hBI⟩);have hS9:=HX9.out.box;refine hK.out _ _ hS9 (fun _ => ?_);clear hK;refine tkk 6 129 (.agg (hdC a n q o)) (by kernel_rfl) iQ3 hS9 ?_;refine tkk 7 130 (.agg (qqp F)) (by kernel_rfl) iQ3 hS9 ?_;have hT9:=(setRow_other _ (W.heap.size+1) W.heap.size (hdC a n q o) (by omega)).trans hS9;refine sH 8 4 129 (W.heap.size+1) a n q o (by kernel_rfl) (HX9.out.hd) (hT9) ?_;refine sF 9 5 130 (W.heap.size+2) F (by kernel_rfl) (sx (by omega) HX9.out.flt) (sx (by omega) hT9) ?_;refine wpAnyH_done (by kernel_rfl) ?_ _;go_simp;go_wp2;refine eoH results208 (HX9.out.fin _ _) rfl rfl rfl ⟨HS.out,(HX9.out.fin _ _).2.2⟩
theorem q5O:(List.range 256).all (fun c=>decide ((c / 32=7→(c%32<20∨22<c%32)→(qiN c).1=0)∧(c / 32=6→(qiN c).1=0)∧(c / 32<6→27<c%32→(qiN c).1=0)∧(c / 32<6→c%32<24→qiN c=(qq5 (c / 32),0,c%32))∧(c / 32<6→24≤c%32→c%32≤27→qiN c=(qq5 (c / 32),2^(c%32-24),0))))=true:=by kernel_rfl
theorem q6x (c:UInt8):(c.toNat / 32=7→(c.toNat%32<20∨22<c.toNat%32)→(qiN c.toNat).1=0)∧(c.toNat / 32=6→(qiN c.toNat).1=0)∧(c.toNat / 32<6→27<c.toNat%32→(qiN c.toNat).1=0)∧(c.toNat / 32<6→c.toNat%32<24→qiN c.toNat=(qq5 (c.toNat / 32),0,c.toNat%32))∧(c.toNat / 32<6→24≤c.toNat%32→c.toNat%32≤27→qiN c.toNat=(qq5 (c.toNat / 32),2^(c.toNat%32-24),0)):=of_decide_eq_true (List.all_eq_true.1 q5O c.toNat (List.mem_range.2 c.toNat_lt))
theorem q5M:(List.range 6).all (fun u=>decide (¬qq5 u=0∧kdT u=kdR (qq5 u)∧¬qq5 u=5∧(qq5 u=6↔u=1)))=true:=by kernel_rfl
theorem q04 (h:u<6):¬qq5 u=0∧kdT u=kdR (qq5 u)∧¬qq5 u=5∧(qq5 u=6↔u=1):=of_decide_eq_true (List.all_eq_true.1 q5M u (List.mem_range.2 h))
theorem q5z (h:u<6)(h1:u=1):nR (qq5 u) w x = -1-min (x:Int) 9223372036854775807:=by
 unfold nR;rw[if_neg (q04 h).2.2.1,if_pos ((q04 h).2.2.2.2 h1)]
theorem q5w (h:u<6)(h1:¬u=1):nR (qq5 u) w x=min (x:Int) 9223372036854775807:=by
 unfold nR;rw[if_neg (q04 h).2.2.1,if_neg (fun e=>h1 ((q04 h).2.2.2.1 e))]
theorem q4w (h:u<6):ovR (qq5 u) x=decide (9223372036854775807<x):=by
 unfold ovR;rw[if_neg (q04 h).2.2.1]
theorem q6S (c:Nat):hdO 3 c=qfo c:=rfl
theorem q6O {l lim:Int}(fm:Int)(hl:Lm bs l lim)(hi:InR bs lim i):(qyb bs l i=false∧hdR fm bs lim i=.error (qr0 bs l i 9))∨(qyb bs l i=true∧∃c,bs[i]? = some c∧¬(i:Int)=lim∧InR bs lim (i+1)∧qr0 bs l i 9=(9,(i:Int))):=by
 cases hc:bs[i]? with
 |none=>exact .inl ⟨qxS hc,by unfold hdR;rw[hc,qxY hi.1 hc 9]⟩
 |some c =>
  by_cases hp:(i:Int)=lim
  ·exact .inl ⟨qyg hl hc hp,by unfold hdR;rw[hc,qxW hl hc hp 9];simp only[];rw[if_pos hp]⟩
  exact .inr ⟨qxO hl hi hc hp,c,rfl,hp,qxJ hi hc hp,qxT hl hi hc hp 9⟩
theorem q12 (W:World)(bs:List UInt8)(fm d l lim:Int)(i:Nat)(hl:Lm bs l lim)(hi:InR bs lim i)(hb:bs.length≤200000000):Calls prog 207 #[.agg (inA bs fm d l),.int .i64 i] W fun e W'=>qxM (hdR 2 bs lim i) e∧Below W.heap.size W W':=by
 rcases q6O 2 hl hi with ⟨hh,hR⟩|⟨hh,c,hc,hp,hn,hb9⟩
 ·exact q0e W bs fm d l i _ rfl (qz7 hR _ _ _ _) (.inl hh)
 have h256:=c.toNat_lt;obtain⟨k1,k2,k3,k4,k5⟩:=q6x c;by_cases hz:(qiN c.toNat).1=0∧((c.toNat / 32=7∧(c.toNat%32<20∨22<c.toNat%32))∨c.toNat / 32=6∨(c.toNat / 32<6∧27<c.toNat%32))
 ·exact q0e W bs fm d l i _ hb9 (qz7 (q1Q (fm:=2) hc hp hz.1) _ _ _ _) (.inr ⟨hh,c,hc,hz.2⟩)
 have hz:¬((c.toNat / 32=7∧(c.toNat%32<20∨22<c.toNat%32))∨c.toNat / 32=6∨(c.toNat / 32<6∧27<c.toNat%32)):=fun h=>hz ⟨h.elim (fun h=>k1 h.1 h.2) (fun h=>h.elim k2 (fun h=>k3 h.1 h.2)),h⟩;by_cases h7:c.toNat / 32=7
 ·have hv:c.toNat=244∨c.toNat=245∨c.toNat=246:=by omega
  rcases hv with hv|hv|hv
  ·exact qyy W bs fm d l i c hc hh hb 1 0 (q0Z (q03 (fm:=2) (so:=2) (x:=0) hc hp (by rw[hv];rfl) (by decide)) rfl rfl (by omega) rfl) ⟨_,_,rfl,rfl,by omega⟩
  ·exact qyy W bs fm d l i c hc hh hb 2 0 (q0Z (q03 (fm:=2) (so:=3) (x:=0) hc hp (by rw[hv];rfl) (by decide)) rfl rfl (by omega) rfl) ⟨_,_,rfl,rfl,by omega⟩
  exact qyy W bs fm d l i c hc hh hb 0 0 (q0Z (q03 (fm:=2) (so:=1) (x:=0) hc hp (by rw[hv];rfl) (by decide)) rfl rfl (by omega) rfl) ⟨_,_,rfl,rfl,by omega⟩
 have hu:c.toNat / 32<6:=by omega
 have hup:=q04 hu;by_cases h24:c.toNat%32<24
 ·have hone:=q03 (fm:=2) hc hp (k4 hu h24) hup.1;by_cases h1:c.toNat / 32=1
  ·exact qyy W bs fm d l i c hc hh hb _ _ (q0Z hone hup.2.1 (by rw[q5z hu h1];omega) (by omega) (by rw[q4w hu,decide_eq_false (by omega)])) ⟨_,_,rfl,rfl,.inr (.inr (.inr (.inl ⟨hu,h24,h1,rfl,rfl⟩)))⟩
  exact qyy W bs fm d l i c hc hh hb _ _ (q0Z hone hup.2.1 (by rw[q5w hu h1];omega) (by omega) (by rw[q4w hu,decide_eq_false (by omega)])) ⟨_,_,rfl,rfl,.inr (.inr (.inr (.inr ⟨hu,h24,h1,rfl,rfl⟩)))⟩
 have hv:c.toNat%32=24∨c.toNat%32=25∨c.toNat%32=26∨c.toNat%32=27:=by omega
 have hk5:=k5 hu (by omega) (by omega);refine q1B W bs fm d l i lim c hc hh _ _ (2^(c.toNat%32-24)) (fun x=>if c.toNat / 32=1 then -1-x else x) rfl hu rfl hl hn hb ?_ ?_ fun nv ov F hB=>q5p (fm:=2) (so:=qq5 (c.toNat / 32)) hc hp hn hk5 hup.1 hB hup.2.1 rfl (fun x hx => ?_) (fun x hx=>by rw[q4w hu,hx])
 ·by_cases h1:c.toNat / 32=1
  ·exact .inl ⟨h1,funext fun _=>if_pos h1⟩
  exact .inr ⟨h1,funext fun _=>if_neg h1⟩
 ·rcases hv with h|h|h|h<;>rw[h]<;>decide
 by_cases h1:c.toNat / 32=1
 ·rw[q5z hu h1,hx,if_pos h1]
 rw[q5w hu h1,hx,if_neg h1]
theorem q0J (bs:List UInt8)(lim:Int):∀(k p a:Nat),qd9 bs lim k p a=match qd9 bs lim k p 0 with
  |.error f=>.error f
  |.ok (y,q)=>.ok (a*256^k+y,q)
 |0,p,a=>by
  rw[qd9,qd9];simp
 |k+1,p,a=>by
  rw[qd9,qd9]
  cases hc:bs[p]? with
  |none=>rfl
  |some c =>
   simp only[];by_cases hp:(p:Int)=lim
   ·rw[if_pos hp,if_pos hp]
   rw[if_neg hp,if_neg hp,q0J bs lim k (p+1) (a*256+c.toNat),q0J bs lim k (p+1) (0*256+c.toNat)]
   cases qd9 bs lim k (p+1) 0 with
   |error f=>rfl
   |ok y =>
    obtain⟨y,q⟩:=y;simp only[];congr 2;rw[Nat.zero_mul,Nat.zero_add,Nat.pow_succ,Nat.add_mul,Nat.mul_assoc,Nat.mul_comm 256 (256^k)];omega
theorem sx1 (x:Nat):qws x (1:Nat)=((x:Int)+128)%256-128:=by
 unfold qws;rw[if_pos (by decide)];have e:IntKind.i8.wrap x=((x:Int)+128)%256-128:=by
  unfold IntKind.wrap;simp only[IntKind.bits,IntKind.signed,Bool.true_and];split<;>rename_i h<;>simp at h<;>omega
 rw[e];unfold wrap64;omega
theorem sx2 (x:Nat):qws x (2:Nat)=((x:Int)+32768)%65536-32768:=by
 unfold qws;rw[if_neg (by decide),if_pos (by decide)];have e:IntKind.i16.wrap x=((x:Int)+32768)%65536-32768:=by
  unfold IntKind.wrap;simp only[IntKind.bits,IntKind.signed,Bool.true_and];split<;>rename_i h<;>simp at h<;>omega
 rw[e];unfold wrap64;omega
theorem sx4 (x:Nat):qws x (4:Nat)=((x:Int)+2147483648)%4294967296-2147483648:=by
 unfold qws;rw[if_neg (by decide),if_neg (by decide),if_pos (by decide)];unfold wrap64 wrap32;omega
theorem sx8 (x:Nat):qws x (8:Nat)=wrap64 x:=by
 unfold qws;rw[if_neg (by decide),if_neg (by decide),if_neg (by decide)]
theorem sx0 (x:Nat):qws x (0:Nat)=wrap64 x:=by
 unfold qws;rw[if_neg (by decide),if_neg (by decide),if_neg (by decide)]
theorem q6U (c:UInt8)(k y:Nat)(hk:k=1∨k=2∨k=4∨k=8)(hy:y<256^(k-1)):qws (c.toNat*256^(k-1)+y) k=tpF c*256^(k-1)+y:=by
 have hc:=c.toNat_lt;rcases hk with rfl|rfl|rfl|rfl
 ·rw[sx1];simp at hy ⊢;subst hy;unfold tpF;split<;>omega
 ·rw[sx2];simp at hy ⊢;unfold tpF;split<;>omega
 ·rw[sx4];simp at hy ⊢;unfold tpF;split<;>omega
 rw[sx8];unfold wrap64;simp at hy ⊢;unfold tpF;split<;>omega
theorem q5X {lim:Int}{k:Nat}{c c1:UInt8}(hc:bs[i]? = some c)(hp:¬(i:Int)=lim)(hc1:bs[i+1]? = some c1)(hp1:¬((i+1:Nat):Int)=lim)(hh:qfo c.toNat=(5,k,0))(hk:k=1∨k=2∨k=4∨k=8)(hi:InR bs lim (i+2)){e:Ending}(hS:q2P (qd9 bs lim (k-1) (i+2) 0) c1 i k e):qxM (hdR 3 bs lim i) e:=by
 obtain⟨a,n,q,o,F,rfl,h1,h2⟩:=hS;have ek:k=(k-1)+1:=by omega
 have er:qd9 bs lim k (i+1) 0=match qd9 bs lim (k-1) (i+2) 0 with
  |.error f=>.error f
  |.ok (y,q)=>.ok (c1.toNat*256^(k-1)+y,q):=by
  conv=>lhs;rw[ek,qd9,hc1]
  simp only[];rw[if_neg hp1,Nat.zero_mul,Nat.zero_add];exact q0J bs lim (k-1) (i+2) c1.toNat
 have e:hdR 3 bs lim i=match qd9 bs lim k (i+1) 0 with
  |.error f=>.error f
  |.ok (x,q)=>.ok (5,k,x,q):=by
  unfold hdR;rw[hc];simp only[];rw[if_neg hp,q6S,hh,if_neg (show ¬(5:Nat)=0 by decide)];rfl
 rw[er] at e
 cases hr:qd9 bs lim (k-1) (i+2) 0 with
 |error f =>
  rw[hr] at e;have:=h2 f hr;subst this;exact qz7 e _ _ _ _
 |ok z =>
  obtain⟨y,p⟩:=z;rw[hr] at e;obtain⟨rfl,rfl,rfl,rfl,rfl⟩:=h1 y p hr;have hpp:=(qyU (k-1) (i+2) 0 y p hi hr).1;have hy:=qzC bs lim _ _ _ _ _ hr;rw[Nat.zero_add,Nat.one_mul] at hy;refine q0Z e rfl ?_ (by omega) rfl;unfold nR;rw[if_pos rfl];exact(q6U c1 k y hk hy).symm
theorem q1w (W:World)(bs:List UInt8)(fm d l lim:Int)(i:Nat)(hl:Lm bs l lim)(hi:InR bs lim i)(hb:bs.length≤200000000):Calls prog 208 #[.agg (inA bs fm d l),.int .i64 i] W fun e W'=>qxM (hdR 3 bs lim i) e∧Below W.heap.size W W':=by
 rcases q6O 3 hl hi with ⟨hh,hR⟩|⟨hh,c,hc,hp,hn,hb9⟩
 ·exact q0h W bs fm d l i _ rfl (qz7 hR _ _ _ _) (.inl hh)
 have h256:=c.toNat_lt;have lo:∀so x:Nat,qfo c.toNat=(so,0,x)→x<9223372036854775808→¬so=0∧¬so=5∧¬so=6→qxM (hdR 3 bs lim i) (.returned (.tuple #[.agg (hdC (kdR so) x ((i:Int)+1) false),.agg (qqp (0,0))])):=fun so x h0 hx ⟨h1,h5,h6⟩=>q0Z (q03 (fm:=3) hc hp h0 h1) rfl (by unfold nR;rw[if_neg h5,if_neg h6];omega) (by omega) (by unfold ovR;rw[if_neg h5,decide_eq_false (by omega)]);by_cases a1:c.toNat<128
 ·have h:=lo 4 _ (by unfold qfo;rw[if_pos a1]) (by omega) (by decide);exact qyn W bs fm d l i c hc hh hb 3 _ h (.inl ⟨by omega,rfl,rfl⟩)
 by_cases a2:c.toNat<144
 ·have h:=lo 10 _ (by unfold qfo;rw[if_neg a1,if_pos a2]) (by omega) (by decide);rw[show((c.toNat-128:Nat):Int)=(c.toNat:Int)-128 by omega] at h;exact qyn W bs fm d l i c hc hh hb 7 _ h (.inr (.inl ⟨⟨by omega,by omega⟩,rfl,rfl⟩))
 by_cases a3:c.toNat<160
 ·have h:=lo 9 _ (by unfold qfo;rw[if_neg a1,if_neg a2,if_pos a3]) (by omega) (by decide);rw[show((c.toNat-144:Nat):Int)=(c.toNat:Int)-144 by omega] at h;exact qyn W bs fm d l i c hc hh hb 6 _ h (.inr (.inr (.inl ⟨⟨by omega,by omega⟩,rfl,rfl⟩)))
 by_cases a4:c.toNat<192
 ·have h:=lo 8 _ (by unfold qfo;rw[if_neg a1,if_neg a2,if_neg a3,if_pos a4]) (by omega) (by decide);rw[show((c.toNat-160:Nat):Int)=(c.toNat:Int)-160 by omega] at h;exact qyn W bs fm d l i c hc hh hb 4 _ h (.inr (.inr (.inr (.inl ⟨⟨by omega,by omega⟩,rfl,rfl⟩))))
 by_cases a5:224≤c.toNat
 ·have he:qfo c.toNat=(5,0,18446744073709551360+c.toNat):=by unfold qfo;rw[if_neg a1,if_neg a2,if_neg a3,if_neg a4,if_neg (by omega)]
  exact qyn W bs fm d l i c hc hh hb 3 ((c.toNat:Int)-256) (q0Z (q03 (fm:=3) hc hp he (by decide)) rfl (by unfold nR;rw[if_pos rfl,sx0];unfold wrap64;omega) (by omega) rfl) (.inr (.inr (.inr (.inr (.inl ⟨by omega,rfl,rfl⟩)))))
 have hx:∀v:Nat,c.toNat=v→(qfo v).1=0→(c.toNat=193∨(199≤(c.toNat:Int)∧(c.toNat:Int)≤203)∨(212≤(c.toNat:Int)∧(c.toNat:Int)≤216))→Calls prog 208 #[.agg (inA bs fm d l),.int .i64 i] W fun e W'=>qxM (hdR 3 bs lim i) e∧Below W.heap.size W W':=fun v hv h0 hw=>q0h W bs fm d l i _ hb9 (qz7 (q1Q hc hp (by rw[q6S,hv];exact h0)) _ _ _ _) (.inr ⟨hh,c,hc,hw⟩);have hbig:∀(v so k:Nat) (kd:Int),c.toNat=v→qfo v=(so,k,0)∧k≤8∧kd=kdR so∧¬so=0∧¬so=5∧¬so=6→∀V,Calls prog 232 #[.agg (inA bs fm d l),.int .i64 i,.int .i64 kd,.int .i64 k] V fun e W'=>qxM (hdR 3 bs lim i) e∧Below V.heap.size V W':=fun v so k kd hv ⟨h0,h8,hkd,h1,h5,h6⟩ V=>(q1a V bs fm d l lim i kd k h8 hl hn hb).mono fun e W' h=>by
  obtain⟨⟨nv,ov,F,rfl,hB⟩,h2⟩:=h;exact⟨q5p hc hp hn (by rw[q6S,hv];exact h0) h1 hB hkd rfl (fun x hx=>by unfold nR;rw[if_neg h5,if_neg h6,hx]) (fun x hx=>by unfold ovR;rw[if_neg h5,hx]),h2⟩
 have hsig:∀(v k:Nat),c.toNat=v→qfo v=(5,k,0)→(k=1∨k=2∨k=4∨k=8)→(qyb bs l (i+1)=false∧qxM (hdR 3 bs lim i) (.returned (.tuple #[.agg (hdC 0 0 0 false),.agg (qqp (qr0 bs l (i+1) 9))])))∨(qyb bs l (i+1)=true∧∀V,Calls prog 233 #[.agg (inA bs fm d l),.int .i64 i,.int .i64 k] V fun e W'=>qxM (hdR 3 bs lim i) e∧Below V.heap.size V W'):=fun v k hv h0 hk=>by
  have hp8:qfo c.toNat=(5,k,0):=by rw[hv];exact h0
  have e:∀f,qd9 bs lim k (i+1) 0=.error f→hdR 3 bs lim i=.error f:=fun f hf=>by
   unfold hdR;rw[hc];simp only[];rw[if_neg hp,q6S,hp8,if_neg (show ¬(5:Nat)=0 by decide)];simp only[];rw[hf]
  have ek:k=(k-1)+1:=by omega
  cases hc1:bs[i+1]? with
  |none=>exact .inl ⟨qxS hc1,qz7 (e _ (by rw[ek,qd9,hc1,qxY hn.1 hc1])) _ _ _ _⟩
  |some c1 =>
   by_cases hp1:((i+1:Nat):Int)=lim
   ·exact .inl ⟨qyg hl hc1 hp1,qz7 (e _ (by rw[ek,qd9,hc1,qxW hl hc1 hp1];simp only[];rw[if_pos hp1])) _ _ _ _⟩
   have hi2:=qxJ hn hc1 hp1;exact .inr ⟨qxO hl hn hc1 hp1,fun V=>(q0m V bs fm d l lim i k (by omega) (by omega) c1 hl hb hi2 hc1).mono fun e' W' h=>⟨q5X hc hp hc1 hp1 hp8 hk hi2 h.1,h.2⟩⟩
 have hs1:∀(v so k:Nat) (kd:Int),c.toNat=v→(v,kd,(k:Int))∈([(196,5,1),(197,5,2),(198,5,4),(204,3,1),(205,3,2),(206,3,4),(207,3,8),(217,4,1),(218,4,2),(219,4,4)]:List (Nat×Int×Int))∧qfo v=(so,k,0)∧k≤8∧kd=kdR so∧¬so=0∧¬so=5∧¬so=6→Calls prog 208 #[.agg (inA bs fm d l),.int .i64 i] W fun e W'=>qxM (hdR 3 bs lim i) e∧Below W.heap.size W W':=fun v so k kd hv ⟨hm,h0⟩=>q2e W bs fm d l i c hc hh hb v kd k hv hm (hbig v so k kd hv h0);have hl1:∀(v so k:Nat) (kd:Int),c.toNat=v→(v,kd,(k:Int))∈([(220,6,2),(221,6,4),(222,7,2),(223,7,4)]:List (Nat×Int×Int))∧qfo v=(so,k,0)∧k≤8∧kd=kdR so∧¬so=0∧¬so=5∧¬so=6→Calls prog 208 #[.agg (inA bs fm d l),.int .i64 i] W fun e W'=>qxM (hdR 3 bs lim i) e∧Below W.heap.size W W':=fun v so k kd hv ⟨hm,h0⟩=>q1N W bs fm d l i c hc hh hb v kd k hv hm (hbig v so k kd hv h0);have hg1:∀v (k:Nat),c.toNat=v→(v,(k:Int))∈([(208,1),(209,2),(210,4),(211,8)]:List (Nat×Int))∧qfo v=(5,k,0)∧(k=1∨k=2∨k=4∨k=8)→Calls prog 208 #[.agg (inA bs fm d l),.int .i64 i] W fun e W'=>qxM (hdR 3 bs lim i) e∧Below W.heap.size W W':=fun v k hv ⟨hm,h0,hk⟩=>q1S W bs fm d l i c hc hh hb v k hv hm (hsig v k hv h0 hk);have ho1:∀v so:Nat,c.toNat=v→qfo v=(so,0,0)∧(¬so=0∧¬so=5∧¬so=6)∧((v=192∧kdR so=0)∨(v=194∧kdR so=1)∨(v=195∧kdR so=2))→Calls prog 208 #[.agg (inA bs fm d l),.int .i64 i] W fun e W'=>qxM (hdR 3 bs lim i) e∧Below W.heap.size W W':=fun v so hv ⟨h0,h1,hw⟩=>qyn W bs fm d l i c hc hh hb _ 0 (lo so 0 (by rw[hv];exact h0) (by decide) h1) (.inr (.inr (.inr (.inr (.inr (by subst hv;simpa using hw))))));have hv:c.toNat=192∨c.toNat=193∨c.toNat=194∨c.toNat=195∨c.toNat=196∨c.toNat=197∨c.toNat=198∨c.toNat=199∨c.toNat=200∨c.toNat=201∨c.toNat=202∨c.toNat=203∨c.toNat=204∨c.toNat=205∨c.toNat=206∨c.toNat=207∨c.toNat=208∨c.toNat=209∨c.toNat=210∨c.toNat=211∨c.toNat=212∨c.toNat=213∨c.toNat=214∨c.toNat=215∨c.toNat=216∨c.toNat=217∨c.toNat=218∨c.toNat=219∨c.toNat=220∨c.toNat=221∨c.toNat=222∨c.toNat=223:=by omega
 rcases hv with hv|hv|hv|hv|hv|hv|hv|hv|hv|hv|hv|hv|hv|hv|hv|hv|hv|hv|hv|hv|hv|hv|hv|hv|hv|hv|hv|hv|hv|hv|hv|hv
 ·exact ho1 192 1 hv (by decide)
 ·exact hx 193 hv rfl (by omega)
 ·exact ho1 194 2 hv (by decide)
 ·exact ho1 195 3 hv (by decide)
 ·exact hs1 196 7 1 5 hv (by decide)
 ·exact hs1 197 7 2 5 hv (by decide)
 ·exact hs1 198 7 4 5 hv (by decide)
 ·exact hx 199 hv rfl (by omega)
 ·exact hx 200 hv rfl (by omega)
 ·exact hx 201 hv rfl (by omega)
 ·exact hx 202 hv rfl (by omega)
 ·exact hx 203 hv rfl (by omega)
 ·exact hs1 204 4 1 3 hv (by decide)
 ·exact hs1 205 4 2 3 hv (by decide)
 ·exact hs1 206 4 4 3 hv (by decide)
 ·exact hs1 207 4 8 3 hv (by decide)
 ·exact hg1 208 1 hv (by decide)
 ·exact hg1 209 2 hv (by decide)
 ·exact hg1 210 4 hv (by decide)
 ·exact hg1 211 8 hv (by decide)
 ·exact hx 212 hv rfl (by omega)
 ·exact hx 213 hv rfl (by omega)
 ·exact hx 214 hv rfl (by omega)
 ·exact hx 215 hv rfl (by omega)
 ·exact hx 216 hv rfl (by omega)
 ·exact hs1 217 8 1 4 hv (by decide)
 ·exact hs1 218 8 2 4 hv (by decide)
 ·exact hs1 219 8 4 4 hv (by decide)
 ·exact hl1 220 9 2 6 hv (by decide)
 ·exact hl1 221 9 4 6 hv (by decide)
 ·exact hl1 222 10 2 7 hv (by decide)
 exact hl1 223 10 4 7 hv (by decide)
theorem q2G (W:World)(bs:List UInt8)(fm d l lim:Int)(i:Nat)(hl:Lm bs l lim)(hi:InR bs lim i)(hb:bs.length≤200000000)(hfm:fm=2∨fm=3):Calls prog 175 #[.agg (inA bs fm d l),.int .i64 i] W fun e W'=>qxM (hdR fm bs lim i) e∧Below W.heap.size W W':=by
 have HX:=qyH W bs fm d l;rcases hfm with rfl|rfl;have cC:=fun V=>q12 V bs 2 d l lim i hl hi hb;rotate_left
 have cC:=fun V=>q1w V bs 3 d l lim i hl hi hb;rotate_left
 all_goals
  clear hl hi hb;unfold inA at *;go_enter func175,ntmps175
  go_wp2_with fail
  refine(cC _).mono ?_;rintro e w9 ⟨⟨a,n,q,o,F,rfl,h1,h2⟩,hB9⟩;have HX9:=qaa (HX.out.next hB9);have HS:=qaa (⟨a,n,q,o,F,rfl,h1,h2⟩:qxM (hdR _ bs lim i) (.returned (.tuple #[.agg (hdC a n q o),.agg (qqp F)])));clear h1 h2 cC;simp only[]
  go_wp2_with (first
   |((with_reducible refine zH 4 _ rfl rfl (W.heap.size+1) a n q o ?_ ?_);exact⟨rfl,rfl,HX9.out.hd⟩)
   |((with_reducible refine zF 5 _ rfl rfl (W.heap.size+2) F ?_ ?_);exact⟨rfl,rfl,sx (by omega) HX9.out.flt⟩))
  refine eoH results175 (HX9.out.fin _ _) rfl rfl rfl ⟨HS.out,(HX9.out.fin _ _).2.2⟩
end
end Go.Proofs.YtllcbnfmihfaaaaGreatDoor
