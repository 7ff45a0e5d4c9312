import Derived.Test.YtllcbnfmihfaaaaGreatDoorUq23
set_option maxRecDepth 100000
set_option maxHeartbeats 8000000
namespace Go.Proofs.YtllcbnfmihfaaaaGreatDoor
open Go.Proofs.Tryz
section
open Go.RowKit Go.Lib
theorem qhp {P:Program}{fn:Func}{p u u2:Tmp}{ty:TypeId}(h:fn.results=#[.tmp u,.tmp u2,.cell p ty])(tmps:Array Value)(w:World)(g:Nat)(t:TypeId)(cs:Array Value)(fr:Nat×Nat)(d:TypeDesc)(hp:tmps.getD p undef=.pointer (some ⟨g,0,none⟩))(hg:w.heap[g]? = some (.cells cs t fr))(hu:P.underlying ty=some d)(hd:(match d with|.struct _|.array _ _=>true|_=>false)=true)(hi:(P.info? ty).map (·.size)=some cs.size)(v v2:Value)(hv:tmps.getD u undef=v)(hv2:tmps.getD u2 undef=v2):(results fn tmps).run P w=.ok (.tuple #[v,v2,.agg cs]) w:=by
 have e:(results fn tmps).run P w=((asAddr (tmps.getD p undef)).run P w).andThen fun a w₁=>((loadVar ty a).run P w₁).andThen fun v w₂=>.ok (.tuple #[tmps.getD u undef,tmps.getD u2 undef,v]) w₂:=by
  simp only[results,h]
  simp[Sem.run_bind,Result.andThen]
 subst hv hv2
 rw[e,hp]
 simp only[asAddr,Sem.run_pure,Result.andThen_ok,run_loadVar_row w g t ty cs fr d hg hu hd hi]
theorem qov {fn:Func}{p u u2:Tmp}{tmps:Array Value}{w:World}{g:Nat}{F:Int×Int}(h:fn.results=#[.tmp u,.tmp u2,.cell p 95])(hg:w.heap[g]? = some (.cells (qae F) 95))(v v2:Value)(hp:tmps.getD p undef=.pointer (some ⟨g,0,none⟩))(hv:tmps.getD u undef=v)(hv2:tmps.getD u2 undef=v2):(results fn tmps).run prog w=.ok (.tuple #[v,v2,.agg (qae F)]) w :=
 qhp h _ _ g _ _ _ _ hp hg underlying95 rfl (qaT _) v v2 hv hv2
theorem qcc {fn:Func}{p u u2:Tmp}{A:Act}{w:World}{g:Nat}{F:Int×Int}{R:Ending→World→Prop}{B:Prop}(h:fn.results=#[.tmp u,.tmp u2,.cell p 95])(hf:w.heap[g]? = some (.cells (qae F) 95)∧B)(v v2:Value)(hp:A.tmps.getD p undef=.pointer (some ⟨g,0,none⟩))(hv:A.tmps.getD u undef=v)(hv2:A.tmps.getD u2 undef=v2)(hd:A.defers=[])(k:R (.returned (.tuple #[v,v2,.agg (qae F)])) w):bodyPost prog fn R .ret A w:=bodyPost_ret (qov h hf.1 v v2 hp hv hv2) hd k
structure qcZ (W:World)(A:Array Value)(M:Nat)(f:Int×Int)(V:World):Prop where
 box:V.heap[W.heap.size]? = some (.cells A 143)
 flt:V.heap[W.heap.size+1]? = some (.cells (qae (0,0)) 95)
 loc:V.heap[M]? = some (.cells (qae f) 95)
 below:Below W.heap.size W V
 lt:W.heap.size+1<M
theorem qcZ.next {W V V':World}{A:Array Value}{M:Nat}{f:Int×Int}(h:qcZ W A M f V)(hb:Below V.heap.size V V'):qcZ W A M f V' :=
 ⟨(hb.block _ (ltA h.box)).trans h.box,(hb.block _ (ltA h.flt)).trans h.flt,(hb.block _ (ltA h.loc)).trans h.loc,h.below.trans (hb.mono h.below.size),h.lt⟩
theorem qcZ.drew {W V:World}{A:Array Value}{M:Nat}{f:Int×Int}(h:qcZ W A M f V):qcZ W A M f V.drew:=⟨h.box,h.flt,h.loc,h.below.drew,h.lt⟩
theorem qcZ.put {W V:World}{A:Array Value}{M:Nat}{f:Int×Int}(h:qcZ W A M f V)(g:Int×Int):qcZ W A M g (V.setRow M (qae g)):=by
 have h1:=h.lt
 exact⟨sx (by omega) h.box,sx (by omega) h.flt,setRow_heap _ _ _ _ _ _ h.loc,qai h.below (by omega) _,h.lt⟩
theorem qdh {W V:World}{A:Array Value}(h:RIn W A (W.heap.size+1) V)(g:Int×Int):qcZ W A V.heap.size g ((V.alloc (.cells (qae (0,0)) 95)).setRow V.heap.size (qae g)):=by
 have h1:=ltA h.flt
 have h2:qcZ W A V.heap.size (0,0) (V.alloc (.cells (qae (0,0)) 95)) :=
  ⟨(Below.heap_alloc _ _ _ (by omega)).trans h.box,(Below.heap_alloc _ _ _ h1).trans h.flt,qab _ _,h.below.alloc (by omega) _,h1⟩
 exact h2.put g
theorem qcZ.fin {W V:World}{A:Array Value}{M:Nat}{f:Int×Int}(h:qcZ W A M f V)(g:Int×Int):(V.setRow (W.heap.size+1) (qae g)).heap[W.heap.size+1]? = some (.cells (qae g) 95)∧Below W.heap.size W (V.setRow (W.heap.size+1) (qae g))∧(V.setRow (W.heap.size+1) (qae g)).heap[M]? = some (.cells (qae f) 95) :=
 ⟨setRow_heap _ _ _ _ _ _ h.flt,qai h.below (by omega) _,(setRow_other _ _ _ _ (by have:=h.lt;omega)).trans h.loc⟩
theorem qaM {bs:List UInt8}{lim:Int}:∀(k p a x q:Nat),InR bs lim p→qbY bs lim k p a=.ok (x,q)→q=p+k∧InR bs lim q∧x<(a+1)*16^k
 |0,p,a,x,q,hi,h=>by
  rw[qbY] at h
  injection h with h
  injection h with h1 h2
  subst h1 h2
  exact⟨rfl,hi,by omega⟩
 |k+1,p,a,x,q,hi,h=>by
  rw[qbY] at h
  cases hc:bs[p]? with
  |none=>rw[hc] at h;cases h
  |some c =>
   rw[hc] at h
   simp only[] at h
   by_cases hp:(p:Int)=lim
   ·rw[if_pos hp] at h;cases h
   ·rw[if_neg hp] at h
    cases hv:qjz c with
    |none=>rw[hv] at h;cases h
    |some dn =>
     rw[hv] at h
     obtain⟨a1,a2,a3⟩:=qaM k (p+1) (a*16+dn) x q (qav hi hc hp) h
     have hd:=qf1 hv
     refine⟨by omega,a2,Nat.lt_of_lt_of_le a3 ?_⟩
     rw[Nat.pow_succ,Nat.mul_comm (16^k) 16,←Nat.mul_assoc]
     exact Nat.mul_le_mul_right _ (by omega)
theorem qba {bs:List UInt8}{lim:Int}:∀(w:List UInt8) (p q:Nat),InR bs lim p→qaw bs lim w p=.ok ((),q)→q=p+w.length∧InR bs lim q
 |[],p,q,hi,h=>by
  rw[qaw] at h
  injection h with h
  injection h with _ h2
  subst h2
  exact⟨rfl,hi⟩
 |x::w,p,q,hi,h=>by
  rw[qaw] at h
  cases hc:bs[p]? with
  |none=>rw[hc] at h;cases h
  |some c =>
   rw[hc] at h
   simp only[] at h
   by_cases hp:(p:Int)=lim
   ·rw[if_pos hp] at h;cases h
   ·rw[if_neg hp] at h
    by_cases hx:c=x
    ·rw[if_pos hx] at h
     obtain⟨a1,a2⟩:=qba w (p+1) q (qav hi hc hp) h
     exact⟨by rw[List.length_cons];omega,a2⟩
    ·rw[if_neg hx] at h;cases h
theorem qe1 {bs:List UInt8}{l lim:Int}{p:Nat}(hl:Lm bs l lim)(hi:InR bs lim (p+1))(e:Int):qaI bs l p e=(e,(p:Int)):=by
 have h1:=hi.1
 have h2:=hi.2
 have h3:=hl p (by omega)
 unfold qaI
 rw[if_neg (by omega),if_neg (by omega)]
theorem qbH {W':World}{b N:Nat}{v:Value}{bs:List UInt8}(h:Own W' b v bs)(hb:N<b):v.ownBlock≠some N:=fun e=>by have:=qaQ h.1 e;omega
theorem qbn {W':World}{b b':Nat}{v:Value}{bs:List UInt8}(h:Own W' b v bs)(hb:b'≤b):Own W' b' v bs:=by
 obtain⟨⟨h1,h2⟩,h3,h4⟩:=h
 refine⟨⟨h1,?_⟩,by omega,h4⟩
 rcases h2 with h2|⟨g,cap,cur,a,b,c⟩
 ·exact .inl h2
 ·exact .inr ⟨g,cap,cur,a,by omega,c⟩
theorem qbJ {W':World}{b:Nat}{v:Value}{bs:List UInt8}(h:Own W' b v bs)(N:Nat)(cs:Array Value)(hN:v.ownBlock≠some N):Own (W'.setRow N cs) b v bs:=by
 obtain⟨⟨h1,h2⟩,h3,h4⟩:=h
 refine⟨⟨h1,?_⟩,by simpa using h3,h4⟩
 rcases h2 with h2|⟨g,cap,cur,a,b,c,d⟩
 ·exact .inl h2
 ·refine .inr ⟨g,cap,cur,a,b,(setRow_other _ _ _ _ (fun e=>hN ?_)).trans c,d⟩
  rw[a,←e]
  rfl
def qbM (W:World)(r:Except (Int×Int) (Int×Nat))(e:Ending)(W':World):Prop:=match r with
 |.ok (x,q)=>∃v,e=.returned (.tuple #[v,.int .i64 q,.agg (qae (0,0))])∧Own W' W.heap.size v (qaF x)
 |.error f=>e=.returned (.tuple #[.slice none 0 0,.int .i64 0,.agg (qae f)])
theorem qkq (W:World)(bs:List UInt8)(fm d l lim:Int)(i:Nat)(hl:Lm bs l lim)(hi:InR bs lim i)(hb:bs.length≤200000000)(f:Int×Int)(h1:qbY bs lim 4 i 0=.error f):Calls prog 230 #[.agg (inA bs fm d l),.int .i64 i] W fun e W'=>qbM W (.error f) e W'∧Below W.heap.size W W':=by
 have hil:=hi.1
 have cX:∀V,Calls prog 245 #[.agg #[.string ⟨bs.toArray⟩,.int .i64 fm,.int .i64 d,.int .i64 l],.int .i64 i] V fun e W'=>e=.returned (.tuple #[.int .i64 0,.agg (qae f)])∧Below V.heap.size V W':=fun V=>(by have h:=qb0 V bs fm d l lim i hl hi hb;rw[h1] at h;exact h)
 have hne:(f.1==0)=false:=by have:=qdk bs lim 4 i 0 f.1 f.2 h1;simpa using this
 have HX:=qbB W bs fm d l
 have HE:Hid ((Except.error f:Except (Int×Int) (Int×Nat))=.error f):=rfl
 clear h1
 clear hl hi
 unfold inA
 go_enter func230,ntmps230
 go_wp2_with (first
  |(go_at_call 245;refine ckB (cX _) HX.out.next ?_;clear cX;intro w2 hB2 HX2;obtain⟨c0,c1,c2,c3⟩:=qa3 HX2.out.box)
  |((with_reducible refine stF 8 16 rfl rfl (w2.heap.size) (f) ?_ ?_ ?_ ?_);exact rfl;exact rfl;exact qab w2 _;refine nmd ?_;intro V2 EV2;have HU:Hid (qcZ W (inA bs fm d l) w2.heap.size (f) V2):=EV2▸qdh HX2.out _;clear EV2;generalize w2.heap.size=M at *;clear c0 c1 c2 c3 hB2 HX2;have u0:=qaa HU.out.loc 0;unfold qae at u0;obtain⟨c0,c1,c2,c3⟩:=qa3 HU.out.box))
 refine rgn (S:=fun Z=>Z.heap[M]? = some (.cells (qae (f)) 95)) (HU.out.loc) (by kernel_rfl) ?_
 intro hS
 refine tkk 1 4 (.slice none 0 0) (by kernel_rfl) iQ3 hS ?_
 refine tkk 2 5 (.int .i64 0) (by kernel_rfl) iQ3 hS ?_
 refine tk 0 20 (.agg (qae (f))) rfl (by kernel_rfl) iQ3 (fun Z hZ=>yF 8 hZ rfl rfl) hS ?_
 refine rdH 3 rfl (by kernel_rfl) (fun K hK => ?_)
 rw[if_pos (by kernel_rfl)]
 refine wp_store_row 95 _ _ rfl (W.heap.size+1) (qae (f)) rfl rfl 95 (qae (0,0)) HU.out.drew.flt (qaT _) rfl (qb7 _) ?_
 refine hK.out _ _ (HU.out.drew.fin (f)).2.2 (fun _ => ?_)
 clear hK
 refine wpAnyH_done (by kernel_rfl) ?_ _
 go_simp
 clear c0 c1 c2 c3 u0
 go_wp2
 have hf:=HU.out.drew.fin (f)
 refine qcc results230 hf _ _ rfl rfl rfl rfl ⟨?_,hf.2.1⟩
 rfl
theorem qlD (W:World)(bs:List UInt8)(fm d l lim:Int)(i:Nat)(hl:Lm bs l lim)(hi:InR bs lim i)(hb:bs.length≤200000000)(x q:Nat)(h1:qbY bs lim 4 i 0=.ok (x,q))(hlo:(x:Int)<55296):Calls prog 230 #[.agg (inA bs fm d l),.int .i64 i] W fun e W'=>qbM W (.ok ((x:Int),q)) e W'∧Below W.heap.size W W':=by
 have hil:=hi.1
 obtain⟨hq,hqi,hx4⟩:=qaM 4 i 0 x q hi h1
 have hx5:x<65536:=by simpa using hx4
 have cX:∀V,Calls prog 245 #[.agg #[.string ⟨bs.toArray⟩,.int .i64 fm,.int .i64 d,.int .i64 l],.int .i64 i] V fun e W'=>e=.returned (.tuple #[.int .i64 x,.agg (qae (0,0))])∧Below V.heap.size V W':=fun V=>(by have h:=qb0 V bs fm d l lim i hl hi hb;rw[h1] at h;exact h)
 have cU:∀V,Calls prog 246 #[.int .i64 (x:Int)] V fun e W'=>∃v,e=.returned v∧Own W' V.heap.size v (qaF (x:Int))∧Below V.heap.size V W':=fun V=>qhI V _ (by omega) (by omega) (by omega)
 have HX:=qbB W bs fm d l
 have HQ:Hid ((q:Int)=(i:Int)+4):=by show _=_;omega
 clear h1 hq hqi hx4
 clear hl hi
 unfold inA
 go_enter func230,ntmps230
 go_wp2_with (first
  |(go_at_call 245;refine ckB (cX _) HX.out.next ?_;clear cX;intro w2 hB2 HX2;obtain⟨c0,c1,c2,c3⟩:=qa3 HX2.out.box)
  |(go_at_call 246;refine(cU _).mono ?_;clear cU c0 c1 c2 c3 u0;rintro e w3 ⟨v,rfl,hO,hB3⟩;obtain⟨va,vn,vc,rfl⟩:=hO.2.2;have HO:Hid (Own w3 W.heap.size (.slice va vn vc) _):=qbn hO HU.out.below.size;have HNE:Hid ((Value.slice va vn vc).ownBlock≠some (W.heap.size+1)):=qbH hO (ltA HU.out.flt);clear hO;have HU3:=qac (HU.out.next hB3))
  |((with_reducible refine stF 8 16 rfl rfl (w2.heap.size) (0,0) ?_ ?_ ?_ ?_);exact rfl;exact rfl;exact qab w2 _;refine nmd ?_;intro V2 EV2;have HU:Hid (qcZ W (inA bs fm d l) w2.heap.size (0,0) V2):=EV2▸qdh HX2.out _;clear EV2;generalize w2.heap.size=M at *;clear c0 c1 c2 c3 hB2 HX2;have u0:=qaa HU.out.loc 0;unfold qae at u0;obtain⟨c0,c1,c2,c3⟩:=qa3 HU.out.box)
  |((with_reducible refine stF 6 31 rfl rfl (W.heap.size+1) (0,0) ?_ ?_ ?_ ?_);exact rfl;exact rfl;exact HU3.out.flt))
 have hf:=HU3.out.fin (0,0)
 refine qcc results230 hf (.slice va vn vc) (.int .i64 ((i:Int)+4)) rfl rfl rfl rfl ⟨?_,hf.2.1⟩
 exact⟨_,by rw[HQ.out],qbJ HO.out _ _ HNE.out⟩
theorem qky (W:World)(bs:List UInt8)(fm d l lim:Int)(i:Nat)(hl:Lm bs l lim)(hi:InR bs lim i)(hb:bs.length≤200000000)(x q:Nat)(h1:qbY bs lim 4 i 0=.ok (x,q))(hlo:57343<(x:Int)):Calls prog 230 #[.agg (inA bs fm d l),.int .i64 i] W fun e W'=>qbM W (.ok ((x:Int),q)) e W'∧Below W.heap.size W W':=by
 have hil:=hi.1
 obtain⟨hq,hqi,hx4⟩:=qaM 4 i 0 x q hi h1
 have hx5:x<65536:=by simpa using hx4
 have cX:∀V,Calls prog 245 #[.agg #[.string ⟨bs.toArray⟩,.int .i64 fm,.int .i64 d,.int .i64 l],.int .i64 i] V fun e W'=>e=.returned (.tuple #[.int .i64 x,.agg (qae (0,0))])∧Below V.heap.size V W':=fun V=>(by have h:=qb0 V bs fm d l lim i hl hi hb;rw[h1] at h;exact h)
 have cU:∀V,Calls prog 246 #[.int .i64 (x:Int)] V fun e W'=>∃v,e=.returned v∧Own W' V.heap.size v (qaF (x:Int))∧Below V.heap.size V W':=fun V=>qhI V _ (by omega) (by omega) (by omega)
 have HX:=qbB W bs fm d l
 have HQ:Hid ((q:Int)=(i:Int)+4):=by show _=_;omega
 clear h1 hq hqi hx4
 clear hl hi
 unfold inA
 go_enter func230,ntmps230
 go_wp2_with (first
  |(go_at_call 245;refine ckB (cX _) HX.out.next ?_;clear cX;intro w2 hB2 HX2;obtain⟨c0,c1,c2,c3⟩:=qa3 HX2.out.box)
  |(go_at_call 246;refine(cU _).mono ?_;clear cU c0 c1 c2 c3 u0;rintro e w3 ⟨v,rfl,hO,hB3⟩;obtain⟨va,vn,vc,rfl⟩:=hO.2.2;have HO:Hid (Own w3 W.heap.size (.slice va vn vc) _):=qbn hO HU.out.below.size;have HNE:Hid ((Value.slice va vn vc).ownBlock≠some (W.heap.size+1)):=qbH hO (ltA HU.out.flt);clear hO;have HU3:=qac (HU.out.next hB3))
  |((with_reducible refine stF 8 16 rfl rfl (w2.heap.size) (0,0) ?_ ?_ ?_ ?_);exact rfl;exact rfl;exact qab w2 _;refine nmd ?_;intro V2 EV2;have HU:Hid (qcZ W (inA bs fm d l) w2.heap.size (0,0) V2):=EV2▸qdh HX2.out _;clear EV2;generalize w2.heap.size=M at *;clear c0 c1 c2 c3 hB2 HX2;have u0:=qaa HU.out.loc 0;unfold qae at u0;obtain⟨c0,c1,c2,c3⟩:=qa3 HU.out.box)
  |((with_reducible refine stF 6 31 rfl rfl (W.heap.size+1) (0,0) ?_ ?_ ?_ ?_);exact rfl;exact rfl;exact HU3.out.flt))
 have hf:=HU3.out.fin (0,0)
 refine qcc results230 hf (.slice va vn vc) (.int .i64 ((i:Int)+4)) rfl rfl rfl rfl ⟨?_,hf.2.1⟩
 exact⟨_,by rw[HQ.out],qbJ HO.out _ _ HNE.out⟩
theorem qm0 (W:World)(bs:List UInt8)(fm d l lim:Int)(i:Nat)(hl:Lm bs l lim)(hi:InR bs lim i)(hb:bs.length≤200000000)(x q:Nat)(h1:qbY bs lim 4 i 0=.ok (x,q))(hlo:56320≤(x:Int))(hhi:(x:Int)≤57343):Calls prog 230 #[.agg (inA bs fm d l),.int .i64 i] W fun e W'=>qbM W (.error (9,(i:Int)+3)) e W'∧Below W.heap.size W W':=by
 have hil:=hi.1
 obtain⟨hq,hqi,hx4⟩:=qaM 4 i 0 x q hi h1
 have hx5:x<65536:=by simpa using hx4
 have cX:∀V,Calls prog 245 #[.agg #[.string ⟨bs.toArray⟩,.int .i64 fm,.int .i64 d,.int .i64 l],.int .i64 i] V fun e W'=>e=.returned (.tuple #[.int .i64 x,.agg (qae (0,0))])∧Below V.heap.size V W':=fun V=>(by have h:=qb0 V bs fm d l lim i hl hi hb;rw[h1] at h;exact h)
 have cB1:∀V,Calls prog 71 #[.agg #[.string ⟨bs.toArray⟩,.int .i64 fm,.int .i64 d,.int .i64 l],.int .i64 ((i:Int)+3),.int .i64 9] V fun e W'=>e=.returned (.agg (qae (9,(i:Int)+3)))∧Below V.heap.size V W':=fun V=>by
  have h:=qaR V bs fm d l (i+3) 9
  rw[qe1 hl (by rw[hq] at hqi;exact hqi)] at h
  exact h
 have HX:=qbB W bs fm d l
 clear h1 hq hqi hx4
 clear hl hi
 unfold inA
 go_enter func230,ntmps230
 go_wp2_with (first
  |(go_at_call 245;refine ckB (cX _) HX.out.next ?_;clear cX;intro w2 hB2 HX2;obtain⟨c0,c1,c2,c3⟩:=qa3 HX2.out.box)
  |(go_at_call 71;refine ck (cB1 _) HU.out.next ?_;clear cB1 c0 c1 c2 c3 u0;intro w3 HU3)
  |((with_reducible refine stF 8 16 rfl rfl (w2.heap.size) (0,0) ?_ ?_ ?_ ?_);exact rfl;exact rfl;exact qab w2 _;refine nmd ?_;intro V2 EV2;have HU:Hid (qcZ W (inA bs fm d l) w2.heap.size (0,0) V2):=EV2▸qdh HX2.out _;clear EV2;generalize w2.heap.size=M at *;clear c0 c1 c2 c3 hB2 HX2;have u0:=qaa HU.out.loc 0;unfold qae at u0;obtain⟨c0,c1,c2,c3⟩:=qa3 HU.out.box)
  |((with_reducible refine stF 6 37 rfl rfl (W.heap.size+1) (9,(i:Int)+3) ?_ ?_ ?_ ?_);exact rfl;exact rfl;exact HU3.out.flt))
 have hf:=HU3.out.fin (9,(i:Int)+3)
 refine qcc results230 hf (.slice none 0 0) (.int .i64 0) rfl rfl rfl rfl ⟨?_,hf.2.1⟩
 rfl
theorem qlx (W:World)(bs:List UInt8)(fm d l lim:Int)(i:Nat)(hl:Lm bs l lim)(hi:InR bs lim i)(hb:bs.length≤200000000)(x q:Nat)(h1:qbY bs lim 4 i 0=.ok (x,q))(hlo:55296≤(x:Int))(hhi:(x:Int)<56320)(f:Int×Int)(hw:qaw bs lim [92,117] (i+4)=.error f):Calls prog 230 #[.agg (inA bs fm d l),.int .i64 i] W fun e W'=>qbM W (.error f) e W'∧Below W.heap.size W W':=by
 have hil:=hi.1
 obtain⟨hq,hqi,hx4⟩:=qaM 4 i 0 x q hi h1
 have hx5:x<65536:=by simpa using hx4
 have d1:decide ((x:Int)<55296)=false:=by simpa using hlo
 have d2:decide (57343<(x:Int))=false:=by simp;omega
 have d3:decide (56320≤(x:Int))=false:=by simpa using hhi
 have cX:∀V,Calls prog 245 #[.agg #[.string ⟨bs.toArray⟩,.int .i64 fm,.int .i64 d,.int .i64 l],.int .i64 i] V fun e W'=>e=.returned (.tuple #[.int .i64 x,.agg (qae (0,0))])∧Below V.heap.size V W':=fun V=>(by have h:=qb0 V bs fm d l lim i hl hi hb;rw[h1] at h;exact h)
 have cW:∀V,Calls prog 170 #[.agg #[.string ⟨bs.toArray⟩,.int .i64 fm,.int .i64 d,.int .i64 l],.int .i64 ((i:Int)+4),.string ⟨#[92,117]⟩] V fun e W'=>e=.returned (.tuple #[.int .i64 0,.agg (qae f)])∧Below V.heap.size V W':=fun V=>by
  have h:=qb6 V bs fm d l lim (i+4) [92,117] (by decide) hl (by rw[←hq];exact hqi) hb
  rw[hw] at h
  exact h
 have hne:(f.1==0)=false:=by have:=qbw bs lim [92,117] (i+4) f.1 f.2 hw;simpa using this
 have HX:=qbB W bs fm d l
 clear h1 hw hq hqi hx4 hlo hhi
 clear hl hi
 unfold inA
 go_enter func230,ntmps230
 go_wp2_with (first
  |(go_at_call 245;refine ckB (cX _) HX.out.next ?_;clear cX;intro w2 hB2 HX2;obtain⟨c0,c1,c2,c3⟩:=qa3 HX2.out.box)
  |(go_at_call 170;refine ck (cW _) HU.out.next ?_;clear cW d1 d2 d3 c0 c1 c2 c3 u0;intro w3 HU3;have u0:=qaa HU3.out.loc 0;unfold qae at u0;obtain⟨c0,c1,c2,c3⟩:=qa3 HU3.out.box)
  |((with_reducible refine stF 8 16 rfl rfl (w2.heap.size) (0,0) ?_ ?_ ?_ ?_);exact rfl;exact rfl;exact qab w2 _;refine nmd ?_;intro V2 EV2;have HU:Hid (qcZ W (inA bs fm d l) w2.heap.size (0,0) V2):=EV2▸qdh HX2.out _;clear EV2;generalize w2.heap.size=M at *;clear c0 c1 c2 c3 hB2 HX2;have u0:=qaa HU.out.loc 0;unfold qae at u0;obtain⟨c0,c1,c2,c3⟩:=qa3 HU.out.box)
  |((with_reducible refine stF 8 44 rfl rfl (M) (f) ?_ ?_ ?_ ?_);exact rfl;exact rfl;exact HU3.out.loc;have HV3:Hid (qcZ W (inA bs fm d l) M (f) (w3.setRow M (qae (f)))):=HU3.out.put _;generalize w3.setRow M (qae (f))=V3 at *;clear c0 c1 c2 c3 u0;have u0:=qaa HV3.out.loc 0;unfold qae at u0;obtain⟨c0,c1,c2,c3⟩:=qa3 HV3.out.box))
 refine rgn (S:=fun Z=>Z.heap[M]? = some (.cells (qae (f)) 95)) (HV3.out.loc) (by kernel_rfl) ?_
 intro hS
 refine tkk 1 4 (.slice none 0 0) (by kernel_rfl) iQ3 hS ?_
 refine tkk 2 5 (.int .i64 0) (by kernel_rfl) iQ3 hS ?_
 refine tk 0 48 (.agg (qae (f))) rfl (by kernel_rfl) iQ3 (fun Z hZ=>yF 8 hZ rfl rfl) hS ?_
 refine rdH 3 rfl (by kernel_rfl) (fun K hK => ?_)
 rw[if_pos (by kernel_rfl)]
 refine wp_store_row 95 _ _ rfl (W.heap.size+1) (qae (f)) rfl rfl 95 (qae (0,0)) HV3.out.drew.flt (qaT _) rfl (qb7 _) ?_
 refine hK.out _ _ (HV3.out.drew.fin (f)).2.2 (fun _ => ?_)
 clear hK
 refine wpAnyH_done (by kernel_rfl) ?_ _
 go_simp
 clear c0 c1 c2 c3 u0
 go_wp2
 have hf:=HV3.out.drew.fin (f)
 refine qcc results230 hf _ _ rfl rfl rfl rfl ⟨?_,hf.2.1⟩
 rfl
theorem qlw (W:World)(bs:List UInt8)(fm d l lim:Int)(i:Nat)(hl:Lm bs l lim)(hi:InR bs lim i)(hb:bs.length≤200000000)(x q:Nat)(h1:qbY bs lim 4 i 0=.ok (x,q))(hlo:55296≤(x:Int))(hhi:(x:Int)<56320)(q2:Nat)(hw:qaw bs lim [92,117] (i+4)=.ok ((),q2))(f:Int×Int)(h2:qbY bs lim 4 (i+6) 0=.error f):Calls prog 230 #[.agg (inA bs fm d l),.int .i64 i] W fun e W'=>qbM W (.error f) e W'∧Below W.heap.size W W':=by
 have hil:=hi.1
 obtain⟨hq,hqi,hx4⟩:=qaM 4 i 0 x q hi h1
 have hx5:x<65536:=by simpa using hx4
 have d1:decide ((x:Int)<55296)=false:=by simpa using hlo
 have d2:decide (57343<(x:Int))=false:=by simp;omega
 have d3:decide (56320≤(x:Int))=false:=by simpa using hhi
 obtain⟨hq2,hqi2⟩:=qba [92,117] (i+4) q2 (by rw[←hq];exact hqi) hw
 have hq3:q2=i+6:=by simpa using hq2
 have cX:∀V,Calls prog 245 #[.agg #[.string ⟨bs.toArray⟩,.int .i64 fm,.int .i64 d,.int .i64 l],.int .i64 i] V fun e W'=>e=.returned (.tuple #[.int .i64 x,.agg (qae (0,0))])∧Below V.heap.size V W':=fun V=>(by have h:=qb0 V bs fm d l lim i hl hi hb;rw[h1] at h;exact h)
 have cW:∀V,Calls prog 170 #[.agg #[.string ⟨bs.toArray⟩,.int .i64 fm,.int .i64 d,.int .i64 l],.int .i64 ((i:Int)+4),.string ⟨#[92,117]⟩] V fun e W'=>e=.returned (.tuple #[.int .i64 ((i:Int)+6),.agg (qae (0,0))])∧Below V.heap.size V W':=fun V=>by
  have h:=qb6 V bs fm d l lim (i+4) [92,117] (by decide) hl (by rw[←hq];exact hqi) hb
  rw[hw,hq3] at h
  exact h
 have cY:∀V,Calls prog 245 #[.agg #[.string ⟨bs.toArray⟩,.int .i64 fm,.int .i64 d,.int .i64 l],.int .i64 ((i:Int)+6)] V fun e W'=>e=.returned (.tuple #[.int .i64 0,.agg (qae f)])∧Below V.heap.size V W':=fun V=>(by have h:=qb0 V bs fm d l lim (i+6) hl (by rw[←hq3];exact hqi2) hb;rw[h2] at h;exact h)
 have hne:(f.1==0)=false:=by have:=qdk bs lim 4 (i+6) 0 f.1 f.2 h2;simpa using this
 have HX:=qbB W bs fm d l
 clear hlo hhi h1 h2 hw hq hqi hx4 hq2 hqi2 hq3
 clear hl hi
 unfold inA
 go_enter func230,ntmps230
 go_wp2_with (first
  |(go_at_call 245;refine ckB (cX _) HX.out.next ?_;clear cX;intro w2 hB2 HX2;obtain⟨c0,c1,c2,c3⟩:=qa3 HX2.out.box)
  |(go_at_call 170;refine ck (cW _) HU.out.next ?_;clear cW d1 d2 d3 c0 c1 c2 c3 u0;intro w3 HU3;have u0:=qaa HU3.out.loc 0;unfold qae at u0;obtain⟨c0,c1,c2,c3⟩:=qa3 HU3.out.box)
  |(go_at_call 245;refine ck (cY _) HV3.out.next ?_;clear cY c0 c1 c2 c3 u0;intro w4 HU4;have u0:=qaa HU4.out.loc 0;unfold qae at u0;obtain⟨c0,c1,c2,c3⟩:=qa3 HU4.out.box)
  |((with_reducible refine stF 8 16 rfl rfl (w2.heap.size) (0,0) ?_ ?_ ?_ ?_);exact rfl;exact rfl;exact qab w2 _;refine nmd ?_;intro V2 EV2;have HU:Hid (qcZ W (inA bs fm d l) w2.heap.size (0,0) V2):=EV2▸qdh HX2.out _;clear EV2;generalize w2.heap.size=M at *;clear c0 c1 c2 c3 hB2 HX2;have u0:=qaa HU.out.loc 0;unfold qae at u0;obtain⟨c0,c1,c2,c3⟩:=qa3 HU.out.box)
  |((with_reducible refine stF 8 44 rfl rfl (M) (0,0) ?_ ?_ ?_ ?_);exact rfl;exact rfl;exact HU3.out.loc;have HV3:Hid (qcZ W (inA bs fm d l) M (0,0) (w3.setRow M (qae (0,0)))):=HU3.out.put _;generalize w3.setRow M (qae (0,0))=V3 at *;clear c0 c1 c2 c3 u0;have u0:=qaa HV3.out.loc 0;unfold qae at u0;obtain⟨c0,c1,c2,c3⟩:=qa3 HV3.out.box)
  |((with_reducible refine stF 8 54 rfl rfl (M) (f) ?_ ?_ ?_ ?_);exact rfl;exact rfl;exact HU4.out.loc;have HV4:Hid (qcZ W (inA bs fm d l) M (f) (w4.setRow M (qae (f)))):=HU4.out.put _;generalize w4.setRow M (qae (f))=V4 at *;clear c0 c1 c2 c3 u0;have u0:=qaa HV4.out.loc 0;unfold qae at u0;obtain⟨c0,c1,c2,c3⟩:=qa3 HV4.out.box))
 refine rgn (S:=fun Z=>Z.heap[M]? = some (.cells (qae (f)) 95)) (HV4.out.loc) (by kernel_rfl) ?_
 intro hS
 refine tkk 1 4 (.slice none 0 0) (by kernel_rfl) iQ3 hS ?_
 refine tkk 2 5 (.int .i64 0) (by kernel_rfl) iQ3 hS ?_
 refine tk 0 58 (.agg (qae (f))) rfl (by kernel_rfl) iQ3 (fun Z hZ=>yF 8 hZ rfl rfl) hS ?_
 refine rdH 3 rfl (by kernel_rfl) (fun K hK => ?_)
 rw[if_pos (by kernel_rfl)]
 refine wp_store_row 95 _ _ rfl (W.heap.size+1) (qae (f)) rfl rfl 95 (qae (0,0)) HV4.out.drew.flt (qaT _) rfl (qb7 _) ?_
 refine hK.out _ _ (HV4.out.drew.fin (f)).2.2 (fun _ => ?_)
 clear hK
 refine wpAnyH_done (by kernel_rfl) ?_ _
 go_simp
 clear c0 c1 c2 c3 u0
 go_wp2
 have hf:=HV4.out.drew.fin (f)
 refine qcc results230 hf _ _ rfl rfl rfl rfl ⟨?_,hf.2.1⟩
 rfl
theorem qjJ (W:World)(bs:List UInt8)(fm d l lim:Int)(i:Nat)(hl:Lm bs l lim)(hi:InR bs lim i)(hb:bs.length≤200000000)(x q:Nat)(h1:qbY bs lim 4 i 0=.ok (x,q))(hlo:55296≤(x:Int))(hhi:(x:Int)<56320)(q2:Nat)(hw:qaw bs lim [92,117] (i+4)=.ok ((),q2))(y q4:Nat)(h2:qbY bs lim 4 (i+6) 0=.ok (y,q4))(hyl:(y:Int)<56320):Calls prog 230 #[.agg (inA bs fm d l),.int .i64 i] W fun e W'=>qbM W (.error (9,(i:Int)+9)) e W'∧Below W.heap.size W W':=by
 have hil:=hi.1
 obtain⟨hq,hqi,hx4⟩:=qaM 4 i 0 x q hi h1
 have hx5:x<65536:=by simpa using hx4
 have d1:decide ((x:Int)<55296)=false:=by simpa using hlo
 have d2:decide (57343<(x:Int))=false:=by simp;omega
 have d3:decide (56320≤(x:Int))=false:=by simpa using hhi
 obtain⟨hq2,hqi2⟩:=qba [92,117] (i+4) q2 (by rw[←hq];exact hqi) hw
 have hq3:q2=i+6:=by simpa using hq2
 obtain⟨hq4,hqi4,hy4⟩:=qaM 4 (i+6) 0 y q4 (by rw[←hq3];exact hqi2) h2
 have hy5:y<65536:=by simpa using hy4
 have cX:∀V,Calls prog 245 #[.agg #[.string ⟨bs.toArray⟩,.int .i64 fm,.int .i64 d,.int .i64 l],.int .i64 i] V fun e W'=>e=.returned (.tuple #[.int .i64 x,.agg (qae (0,0))])∧Below V.heap.size V W':=fun V=>(by have h:=qb0 V bs fm d l lim i hl hi hb;rw[h1] at h;exact h)
 have cW:∀V,Calls prog 170 #[.agg #[.string ⟨bs.toArray⟩,.int .i64 fm,.int .i64 d,.int .i64 l],.int .i64 ((i:Int)+4),.string ⟨#[92,117]⟩] V fun e W'=>e=.returned (.tuple #[.int .i64 ((i:Int)+6),.agg (qae (0,0))])∧Below V.heap.size V W':=fun V=>by
  have h:=qb6 V bs fm d l lim (i+4) [92,117] (by decide) hl (by rw[←hq];exact hqi) hb
  rw[hw,hq3] at h
  exact h
 have cY:∀V,Calls prog 245 #[.agg #[.string ⟨bs.toArray⟩,.int .i64 fm,.int .i64 d,.int .i64 l],.int .i64 ((i:Int)+6)] V fun e W'=>e=.returned (.tuple #[.int .i64 y,.agg (qae (0,0))])∧Below V.heap.size V W':=fun V=>(by have h:=qb0 V bs fm d l lim (i+6) hl (by rw[←hq3];exact hqi2) hb;rw[h2] at h;exact h)
 have cB1:∀V,Calls prog 71 #[.agg #[.string ⟨bs.toArray⟩,.int .i64 fm,.int .i64 d,.int .i64 l],.int .i64 ((i:Int)+6+3),.int .i64 9] V fun e W'=>e=.returned (.agg (qae (9,(i:Int)+9)))∧Below V.heap.size V W':=fun V=>by
  have h:=qaR V bs fm d l (i+9) 9
  rw[qe1 hl (by rw[hq4] at hqi4;exact hqi4)] at h
  exact h
 have HX:=qbB W bs fm d l
 have E1:Hid (decide ((y:Int)<56320)=true):=by show _=_;simpa using hyl
 clear hyl
 clear hlo hhi h1 h2 hw hq hqi hx4 hq2 hqi2 hq3 hq4 hqi4 hy4
 clear hl hi
 unfold inA
 go_enter func230,ntmps230
 go_wp2_with (first
  |(go_at_call 245;refine ckB (cX _) HX.out.next ?_;clear cX;intro w2 hB2 HX2;obtain⟨c0,c1,c2,c3⟩:=qa3 HX2.out.box)
  |(go_at_call 170;refine ck (cW _) HU.out.next ?_;clear cW d1 d2 d3 c0 c1 c2 c3 u0;intro w3 HU3;have u0:=qaa HU3.out.loc 0;unfold qae at u0;obtain⟨c0,c1,c2,c3⟩:=qa3 HU3.out.box)
  |(go_at_call 245;refine ck (cY _) HV3.out.next ?_;clear cY c0 c1 c2 c3 u0;intro w4 HU4;have u0:=qaa HU4.out.loc 0;unfold qae at u0;obtain⟨c0,c1,c2,c3⟩:=qa3 HU4.out.box)
  |(go_at_call 71;refine ck (cB1 _) HV4.out.next ?_;clear cB1 c0 c1 c2 c3 u0;intro w5 HU5)
  |((with_reducible refine stF 8 16 rfl rfl (w2.heap.size) (0,0) ?_ ?_ ?_ ?_);exact rfl;exact rfl;exact qab w2 _;refine nmd ?_;intro V2 EV2;have HU:Hid (qcZ W (inA bs fm d l) w2.heap.size (0,0) V2):=EV2▸qdh HX2.out _;clear EV2;generalize w2.heap.size=M at *;clear c0 c1 c2 c3 hB2 HX2;have u0:=qaa HU.out.loc 0;unfold qae at u0;obtain⟨c0,c1,c2,c3⟩:=qa3 HU.out.box)
  |((with_reducible refine stF 8 44 rfl rfl (M) (0,0) ?_ ?_ ?_ ?_);exact rfl;exact rfl;exact HU3.out.loc;have HV3:Hid (qcZ W (inA bs fm d l) M (0,0) (w3.setRow M (qae (0,0)))):=HU3.out.put _;generalize w3.setRow M (qae (0,0))=V3 at *;clear c0 c1 c2 c3 u0;have u0:=qaa HV3.out.loc 0;unfold qae at u0;obtain⟨c0,c1,c2,c3⟩:=qa3 HV3.out.box)
  |((with_reducible refine stF 8 54 rfl rfl (M) (0,0) ?_ ?_ ?_ ?_);exact rfl;exact rfl;exact HU4.out.loc;have HV4:Hid (qcZ W (inA bs fm d l) M (0,0) (w4.setRow M (qae (0,0)))):=HU4.out.put _;generalize w4.setRow M (qae (0,0))=V4 at *;clear c0 c1 c2 c3 u0;have u0:=qaa HV4.out.loc 0;unfold qae at u0;obtain⟨c0,c1,c2,c3⟩:=qa3 HV4.out.box;have e1:=E1.out;clear E1)
  |((with_reducible refine stF 6 68 rfl rfl (W.heap.size+1) (9,(i:Int)+9) ?_ ?_ ?_ ?_);exact rfl;exact rfl;exact HU5.out.flt))
 have hf:=HU5.out.fin (9,(i:Int)+9)
 refine qcc results230 hf (.slice none 0 0) (.int .i64 0) rfl rfl rfl rfl ⟨?_,hf.2.1⟩
 rfl
theorem qjQ (W:World)(bs:List UInt8)(fm d l lim:Int)(i:Nat)(hl:Lm bs l lim)(hi:InR bs lim i)(hb:bs.length≤200000000)(x q:Nat)(h1:qbY bs lim 4 i 0=.ok (x,q))(hlo:55296≤(x:Int))(hhi:(x:Int)<56320)(q2:Nat)(hw:qaw bs lim [92,117] (i+4)=.ok ((),q2))(y q4:Nat)(h2:qbY bs lim 4 (i+6) 0=.ok (y,q4))(hyl:57343<(y:Int)):Calls prog 230 #[.agg (inA bs fm d l),.int .i64 i] W fun e W'=>qbM W (.error (9,(i:Int)+9)) e W'∧Below W.heap.size W W':=by
 have hil:=hi.1
 obtain⟨hq,hqi,hx4⟩:=qaM 4 i 0 x q hi h1
 have hx5:x<65536:=by simpa using hx4
 have d1:decide ((x:Int)<55296)=false:=by simpa using hlo
 have d2:decide (57343<(x:Int))=false:=by simp;omega
 have d3:decide (56320≤(x:Int))=false:=by simpa using hhi
 obtain⟨hq2,hqi2⟩:=qba [92,117] (i+4) q2 (by rw[←hq];exact hqi) hw
 have hq3:q2=i+6:=by simpa using hq2
 obtain⟨hq4,hqi4,hy4⟩:=qaM 4 (i+6) 0 y q4 (by rw[←hq3];exact hqi2) h2
 have hy5:y<65536:=by simpa using hy4
 have cX:∀V,Calls prog 245 #[.agg #[.string ⟨bs.toArray⟩,.int .i64 fm,.int .i64 d,.int .i64 l],.int .i64 i] V fun e W'=>e=.returned (.tuple #[.int .i64 x,.agg (qae (0,0))])∧Below V.heap.size V W':=fun V=>(by have h:=qb0 V bs fm d l lim i hl hi hb;rw[h1] at h;exact h)
 have cW:∀V,Calls prog 170 #[.agg #[.string ⟨bs.toArray⟩,.int .i64 fm,.int .i64 d,.int .i64 l],.int .i64 ((i:Int)+4),.string ⟨#[92,117]⟩] V fun e W'=>e=.returned (.tuple #[.int .i64 ((i:Int)+6),.agg (qae (0,0))])∧Below V.heap.size V W':=fun V=>by
  have h:=qb6 V bs fm d l lim (i+4) [92,117] (by decide) hl (by rw[←hq];exact hqi) hb
  rw[hw,hq3] at h
  exact h
 have cY:∀V,Calls prog 245 #[.agg #[.string ⟨bs.toArray⟩,.int .i64 fm,.int .i64 d,.int .i64 l],.int .i64 ((i:Int)+6)] V fun e W'=>e=.returned (.tuple #[.int .i64 y,.agg (qae (0,0))])∧Below V.heap.size V W':=fun V=>(by have h:=qb0 V bs fm d l lim (i+6) hl (by rw[←hq3];exact hqi2) hb;rw[h2] at h;exact h)
 have cB1:∀V,Calls prog 71 #[.agg #[.string ⟨bs.toArray⟩,.int .i64 fm,.int .i64 d,.int .i64 l],.int .i64 ((i:Int)+6+3),.int .i64 9] V fun e W'=>e=.returned (.agg (qae (9,(i:Int)+9)))∧Below V.heap.size V W':=fun V=>by
  have h:=qaR V bs fm d l (i+9) 9
  rw[qe1 hl (by rw[hq4] at hqi4;exact hqi4)] at h
  exact h
 have HX:=qbB W bs fm d l
 have E1:Hid (decide ((y:Int)<56320)=false):=by show _=_;simp;omega
 have E2:Hid (decide (57343<(y:Int))=true):=by show _=_;simpa using hyl
 clear hyl
 clear hlo hhi h1 h2 hw hq hqi hx4 hq2 hqi2 hq3 hq4 hqi4 hy4
 clear hl hi
 unfold inA
 go_enter func230,ntmps230
 go_wp2_with (first
  |(go_at_call 245;refine ckB (cX _) HX.out.next ?_;clear cX;intro w2 hB2 HX2;obtain⟨c0,c1,c2,c3⟩:=qa3 HX2.out.box)
  |(go_at_call 170;refine ck (cW _) HU.out.next ?_;clear cW d1 d2 d3 c0 c1 c2 c3 u0;intro w3 HU3;have u0:=qaa HU3.out.loc 0;unfold qae at u0;obtain⟨c0,c1,c2,c3⟩:=qa3 HU3.out.box)
  |(go_at_call 245;refine ck (cY _) HV3.out.next ?_;clear cY c0 c1 c2 c3 u0;intro w4 HU4;have u0:=qaa HU4.out.loc 0;unfold qae at u0;obtain⟨c0,c1,c2,c3⟩:=qa3 HU4.out.box)
  |(go_at_call 71;refine ck (cB1 _) HV4.out.next ?_;clear cB1 c0 c1 c2 c3 u0;intro w5 HU5)
  |((with_reducible refine stF 8 16 rfl rfl (w2.heap.size) (0,0) ?_ ?_ ?_ ?_);exact rfl;exact rfl;exact qab w2 _;refine nmd ?_;intro V2 EV2;have HU:Hid (qcZ W (inA bs fm d l) w2.heap.size (0,0) V2):=EV2▸qdh HX2.out _;clear EV2;generalize w2.heap.size=M at *;clear c0 c1 c2 c3 hB2 HX2;have u0:=qaa HU.out.loc 0;unfold qae at u0;obtain⟨c0,c1,c2,c3⟩:=qa3 HU.out.box)
  |((with_reducible refine stF 8 44 rfl rfl (M) (0,0) ?_ ?_ ?_ ?_);exact rfl;exact rfl;exact HU3.out.loc;have HV3:Hid (qcZ W (inA bs fm d l) M (0,0) (w3.setRow M (qae (0,0)))):=HU3.out.put _;generalize w3.setRow M (qae (0,0))=V3 at *;clear c0 c1 c2 c3 u0;have u0:=qaa HV3.out.loc 0;unfold qae at u0;obtain⟨c0,c1,c2,c3⟩:=qa3 HV3.out.box)
  |((with_reducible refine stF 8 54 rfl rfl (M) (0,0) ?_ ?_ ?_ ?_);exact rfl;exact rfl;exact HU4.out.loc;have HV4:Hid (qcZ W (inA bs fm d l) M (0,0) (w4.setRow M (qae (0,0)))):=HU4.out.put _;generalize w4.setRow M (qae (0,0))=V4 at *;clear c0 c1 c2 c3 u0;have u0:=qaa HV4.out.loc 0;unfold qae at u0;obtain⟨c0,c1,c2,c3⟩:=qa3 HV4.out.box;have e1:=E1.out;have e2:=E2.out;clear E1 E2)
  |((with_reducible refine stF 6 68 rfl rfl (W.heap.size+1) (9,(i:Int)+9) ?_ ?_ ?_ ?_);exact rfl;exact rfl;exact HU5.out.flt))
 have hf:=HU5.out.fin (9,(i:Int)+9)
 refine qcc results230 hf (.slice none 0 0) (.int .i64 0) rfl rfl rfl rfl ⟨?_,hf.2.1⟩
 rfl
theorem qmA (W:World)(bs:List UInt8)(fm d l lim:Int)(i:Nat)(hl:Lm bs l lim)(hi:InR bs lim i)(hb:bs.length≤200000000)(x q:Nat)(h1:qbY bs lim 4 i 0=.ok (x,q))(hlo:55296≤(x:Int))(hhi:(x:Int)<56320)(q2:Nat)(hw:qaw bs lim [92,117] (i+4)=.ok ((),q2))(y q4:Nat)(h2:qbY bs lim 4 (i+6) 0=.ok (y,q4))(hyl:56320≤(y:Int))(hyh:(y:Int)≤57343):Calls prog 230 #[.agg (inA bs fm d l),.int .i64 i] W fun e W'=>qbM W (.ok (65536+((x:Int)-55296)*1024+(y:Int)-56320,i+10)) e W'∧Below W.heap.size W W':=by
 have hil:=hi.1
 obtain⟨hq,hqi,hx4⟩:=qaM 4 i 0 x q hi h1
 have hx5:x<65536:=by simpa using hx4
 have d1:decide ((x:Int)<55296)=false:=by simpa using hlo
 have d2:decide (57343<(x:Int))=false:=by simp;omega
 have d3:decide (56320≤(x:Int))=false:=by simpa using hhi
 obtain⟨hq2,hqi2⟩:=qba [92,117] (i+4) q2 (by rw[←hq];exact hqi) hw
 have hq3:q2=i+6:=by simpa using hq2
 obtain⟨hq4,hqi4,hy4⟩:=qaM 4 (i+6) 0 y q4 (by rw[←hq3];exact hqi2) h2
 have hy5:y<65536:=by simpa using hy4
 have cX:∀V,Calls prog 245 #[.agg #[.string ⟨bs.toArray⟩,.int .i64 fm,.int .i64 d,.int .i64 l],.int .i64 i] V fun e W'=>e=.returned (.tuple #[.int .i64 x,.agg (qae (0,0))])∧Below V.heap.size V W':=fun V=>(by have h:=qb0 V bs fm d l lim i hl hi hb;rw[h1] at h;exact h)
 have cW:∀V,Calls prog 170 #[.agg #[.string ⟨bs.toArray⟩,.int .i64 fm,.int .i64 d,.int .i64 l],.int .i64 ((i:Int)+4),.string ⟨#[92,117]⟩] V fun e W'=>e=.returned (.tuple #[.int .i64 ((i:Int)+6),.agg (qae (0,0))])∧Below V.heap.size V W':=fun V=>by
  have h:=qb6 V bs fm d l lim (i+4) [92,117] (by decide) hl (by rw[←hq];exact hqi) hb
  rw[hw,hq3] at h
  exact h
 have cY:∀V,Calls prog 245 #[.agg #[.string ⟨bs.toArray⟩,.int .i64 fm,.int .i64 d,.int .i64 l],.int .i64 ((i:Int)+6)] V fun e W'=>e=.returned (.tuple #[.int .i64 y,.agg (qae (0,0))])∧Below V.heap.size V W':=fun V=>(by have h:=qb0 V bs fm d l lim (i+6) hl (by rw[←hq3];exact hqi2) hb;rw[h2] at h;exact h)
 have cU:∀V,Calls prog 246 #[.int .i64 (65536+((x:Int)-55296)*1024+(y:Int)-56320)] V fun e W'=>∃v,e=.returned v∧Own W' V.heap.size v (qaF (65536+((x:Int)-55296)*1024+(y:Int)-56320))∧Below V.heap.size V W':=fun V=>qhI V _ (by omega) (by omega) (by omega)
 have HX:=qbB W bs fm d l
 have E1:Hid (decide ((y:Int)<56320)=false):=by show _=_;simpa using hyl
 have E2:Hid (decide (57343<(y:Int))=false):=by show _=_;simpa using hyh
 clear hyl hyh
 clear hlo hhi h1 h2 hw hq hqi hx4 hq2 hqi2 hq3 hq4 hqi4 hy4
 clear hl hi
 unfold inA
 go_enter func230,ntmps230
 go_wp2_with (first
  |(go_at_call 245;refine ckB (cX _) HX.out.next ?_;clear cX;intro w2 hB2 HX2;obtain⟨c0,c1,c2,c3⟩:=qa3 HX2.out.box)
  |(go_at_call 170;refine ck (cW _) HU.out.next ?_;clear cW d1 d2 d3 c0 c1 c2 c3 u0;intro w3 HU3;have u0:=qaa HU3.out.loc 0;unfold qae at u0;obtain⟨c0,c1,c2,c3⟩:=qa3 HU3.out.box)
  |(go_at_call 245;refine ck (cY _) HV3.out.next ?_;clear cY c0 c1 c2 c3 u0;intro w4 HU4;have u0:=qaa HU4.out.loc 0;unfold qae at u0;obtain⟨c0,c1,c2,c3⟩:=qa3 HU4.out.box)
  |(go_at_call 246;refine(cU _).mono ?_;clear cU c0 c1 c2 c3 u0;rintro e w5 ⟨v,rfl,hO,hB5⟩;obtain⟨va,vn,vc,rfl⟩:=hO.2.2;have HO:Hid (Own w5 W.heap.size (.slice va vn vc) _):=qbn hO HV4.out.below.size;have HNE:Hid ((Value.slice va vn vc).ownBlock≠some (W.heap.size+1)):=qbH hO (ltA HV4.out.flt);clear hO;have HU5:=qac (HV4.out.next hB5))
  |((with_reducible refine stF 8 16 rfl rfl (w2.heap.size) (0,0) ?_ ?_ ?_ ?_);exact rfl;exact rfl;exact qab w2 _;refine nmd ?_;intro V2 EV2;have HU:Hid (qcZ W (inA bs fm d l) w2.heap.size (0,0) V2):=EV2▸qdh HX2.out _;clear EV2;generalize w2.heap.size=M at *;clear c0 c1 c2 c3 hB2 HX2;have u0:=qaa HU.out.loc 0;unfold qae at u0;obtain⟨c0,c1,c2,c3⟩:=qa3 HU.out.box)
  |((with_reducible refine stF 8 44 rfl rfl (M) (0,0) ?_ ?_ ?_ ?_);exact rfl;exact rfl;exact HU3.out.loc;have HV3:Hid (qcZ W (inA bs fm d l) M (0,0) (w3.setRow M (qae (0,0)))):=HU3.out.put _;generalize w3.setRow M (qae (0,0))=V3 at *;clear c0 c1 c2 c3 u0;have u0:=qaa HV3.out.loc 0;unfold qae at u0;obtain⟨c0,c1,c2,c3⟩:=qa3 HV3.out.box)
  |((with_reducible refine stF 8 54 rfl rfl (M) (0,0) ?_ ?_ ?_ ?_);exact rfl;exact rfl;exact HU4.out.loc;have HV4:Hid (qcZ W (inA bs fm d l) M (0,0) (w4.setRow M (qae (0,0)))):=HU4.out.put _;generalize w4.setRow M (qae (0,0))=V4 at *;clear c0 c1 c2 c3 u0;have u0:=qaa HV4.out.loc 0;unfold qae at u0;obtain⟨c0,c1,c2,c3⟩:=qa3 HV4.out.box;have e1:=E1.out;have e2:=E2.out;clear E1 E2)
  |((with_reducible refine stF 6 79 rfl rfl (W.heap.size+1) (0,0) ?_ ?_ ?_ ?_);exact rfl;exact rfl;exact HU5.out.flt))
 have hf:=HU5.out.fin (0,0)
 refine qcc results230 hf (.slice va vn vc) (.int .i64 ((i:Int)+6+4)) rfl rfl rfl rfl ⟨?_,hf.2.1⟩
 exact⟨_,by congr 4,qbJ HO.out _ _ HNE.out⟩
end
end Go.Proofs.YtllcbnfmihfaaaaGreatDoor
