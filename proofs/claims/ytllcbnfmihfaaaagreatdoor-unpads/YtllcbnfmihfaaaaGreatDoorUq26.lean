import Derived.Test.YtllcbnfmihfaaaaGreatDoorUq25
import Derived.Test.YtllcbnfmihfaaaaGreatDoorUq14
set_option maxRecDepth 100000
set_option maxHeartbeats 8000000
namespace Go.Proofs.YtllcbnfmihfaaaaGreatDoor
open Go.Proofs.Tryz
section
open Go.RowKit Go.Lib
theorem qm6 (W:World)(bs:List UInt8)(fm d l lim:Int)(i:Nat)(hl:Lm bs l lim)(hi:InR bs lim i)(hb:bs.length≤200000000):Calls prog 230 #[.agg (inA bs fm d l),.int .i64 i] W fun e W'=>qbM W (qdr bs lim i) e W'∧Below W.heap.size W W':=by
 unfold qdr
 cases h1:qbY bs lim 4 i 0 with
 |error f=>exact qkq W bs fm d l lim i hl hi hb f h1
 |ok r =>
  obtain⟨x,q⟩:=r
  simp only[]
  obtain⟨hq,hqi,_⟩:=qaM 4 i 0 x q hi h1
  by_cases hlo:qlI x=true
  ·rw[if_pos hlo]
   unfold qlI at hlo
   have h2:=of_decide_eq_true hlo
   rw[show(q:Int)-1=(i:Int)+3 by omega]
   exact qm0 W bs fm d l lim i hl hi hb x q h1 (by omega) (by omega)
  ·rw[if_neg hlo]
   have hlo2:¬(56320≤x∧x≤57343):=fun h=>hlo (decide_eq_true h)
   by_cases hhi:qnL x=true
   ·rw[if_pos hhi]
    unfold qnL at hhi
    have h2:=of_decide_eq_true hhi
    subst hq
    cases hw:qaw bs lim [92,117] (i+4) with
    |error f=>exact qlx W bs fm d l lim i hl hi hb x (i+4) h1 (by omega) (by omega) f hw
    |ok r =>
     obtain⟨u,q2⟩:=r
     simp only[]
     obtain⟨hq2,hqi2⟩:=qba [92,117] (i+4) q2 hqi hw
     have hq3:q2=i+6:=by simpa using hq2
     subst hq3
     cases h3:qbY bs lim 4 (i+6) 0 with
     |error f=>exact qlw W bs fm d l lim i hl hi hb x (i+4) h1 (by omega) (by omega) (i+6) hw f h3
     |ok r =>
      obtain⟨y,q4⟩:=r
      simp only[]
      obtain⟨hq4,hqi4,_⟩:=qaM 4 (i+6) 0 y q4 hqi2 h3
      subst hq4
      by_cases hyl:qlI y=true
      ·rw[if_pos hyl]
       unfold qlI at hyl
       have h4:=of_decide_eq_true hyl
       rw[show 65536+((x:Int)-55296)*1024+((y:Int)-56320)=65536+((x:Int)-55296)*1024+(y:Int)-56320 by omega]
       exact qmA W bs fm d l lim i hl hi hb x (i+4) h1 (by omega) (by omega) (i+6) hw y (i+10) h3 (by omega) (by omega)
      ·rw[if_neg hyl,show((i+6+4:Nat):Int)-1=(i:Int)+9 by omega]
       have hyl2:¬(56320≤y∧y≤57343):=fun h=>hyl (decide_eq_true h)
       by_cases hy:(y:Int)<56320
       ·exact qjJ W bs fm d l lim i hl hi hb x (i+4) h1 (by omega) (by omega) (i+6) hw y (i+10) h3 hy
       ·exact qjQ W bs fm d l lim i hl hi hb x (i+4) h1 (by omega) (by omega) (i+6) hw y (i+10) h3 (by omega)
   ·rw[if_neg hhi]
    have hhi2:¬(55296≤x∧x≤56319):=fun h=>hhi (decide_eq_true h)
    by_cases hx:(x:Int)<55296
    ·exact qlD W bs fm d l lim i hl hi hb x q h1 hx
    ·exact qky W bs fm d l lim i hl hi hb x q h1 (by omega)
theorem qdC (r:Int)(h0:0≤r)(h1:r≤127):runeCells r=[.int .u8 r]:=by unfold runeCells;rw[encodeRuneZ_one h0 h1];rfl
theorem qgR (W:World)(bs:List UInt8)(fm d l _lim:Int)(i:Nat)(_hb:bs.length≤200000000)(_hil:i≤bs.length)(x:Int×Int)(h1:qaz bs l i=false)(h2:qaI bs l i 9=x):Calls prog 204 #[.agg (inA bs fm d l),.int .i64 i] W fun e W'=>qbM W (.error x) e W'∧Below W.heap.size W W':=by
 have cH1:=qap fm d h1
 have cB1:=qcz fm d h2
 have HX:=qbB W bs fm d l
 clear h1 h2
 unfold inA
 go_enter func204,ntmps204
 go_wp2_with (first
  |(go_at_call 113;refine ck4 (cH1 _) HX.out.next (fun _ h=>h.box) ?_;clear cH1;intro w2 HX2 c0 c1 c2 c3)
  |(go_at_call 71;refine ck4 (cB1 _) HX2.out.next (fun _ h=>h.box) ?_;clear cB1 c0 c1 c2 c3;intro w3 HX3 c0 c1 c2 c3)
  |(refine stF 6 13 rfl rfl (W.heap.size+1) (x) rfl rfl ?_ ?_;exact HX3.out.flt))
 have hf:=qay HX3.out bwR (x)
 refine qcc results204 hf (.slice none 0 0) (.int .i64 0) rfl rfl rfl rfl ⟨?_,hf.2⟩
 rfl
theorem qjv (W:World)(bs:List UInt8)(fm d l _lim:Int)(i:Nat)(_hb:bs.length≤200000000)(_hil:i≤bs.length)(c:UInt8)(hc:bs[i]? = some c)(h1:qaz bs l i=true)(hv:c.toNat=34):Calls prog 204 #[.agg (inA bs fm d l),.int .i64 i] W fun e W'=>qbM W (.ok (34,i+1)) e W'∧Below W.heap.size W W':=by
 have hix:=qah bs i c hc
 have hib:=ltL hc
 have t34:((c.toNat:Int)==34)=true:=by rw[hv];rfl
 have cH1:=qap fm d h1
 have HX:=qbB W bs fm d l
 have HV:Hid (c.toNat=34):=hv
 clear h1 hc hv
 unfold inA
 go_enter func204,ntmps204
 go_wp2_with (first
  |(go_at_call 113;refine ck4 (cH1 _) HX.out.next (fun _ h=>h.box) ?_;clear cH1;intro w2 HX2 c0 c1 c2 c3;have HX3:Hid (RIn W (inA bs fm d l) (W.heap.size+1) (w2.alloc (.cells #[.int .u8 c.toNat] 5))):=HX2.out.next bwA)
  |(refine stF 6 29 rfl rfl (W.heap.size+1) (0,0) rfl rfl ?_ ?_;exact HX3.out.flt))
 have hf:=qay HX3.out bwR (0,0)
 refine qcc results204 hf (.slice (some ⟨w2.heap.size,0,none⟩) 1 1) (.int .i64 ((i:Int)+1)) rfl rfl rfl rfl ⟨?_,hf.2⟩
 have hO:=(qbo w2 34 [.int .u8 c.toNat] 1 rfl (by rw[qdC 34 (by decide) (by decide),HV.out];rfl)).1
 exact⟨_,rfl,qbJ (qbn hO HX2.out.below.size) _ _ (qbH hO (ltA HX2.out.flt))⟩
theorem qkb (W:World)(bs:List UInt8)(fm d l _lim:Int)(i:Nat)(_hb:bs.length≤200000000)(_hil:i≤bs.length)(c:UInt8)(hc:bs[i]? = some c)(h1:qaz bs l i=true)(hv:c.toNat=92):Calls prog 204 #[.agg (inA bs fm d l),.int .i64 i] W fun e W'=>qbM W (.ok (92,i+1)) e W'∧Below W.heap.size W W':=by
 have hix:=qah bs i c hc
 have hib:=ltL hc
 have t34:=nec (c:=c) 34 (by omega)
 have t92:((c.toNat:Int)==92)=true:=by rw[hv];rfl
 have cH1:=qap fm d h1
 have HX:=qbB W bs fm d l
 have HV:Hid (c.toNat=92):=hv
 clear h1 hc hv
 unfold inA
 go_enter func204,ntmps204
 go_wp2_with (first
  |(go_at_call 113;refine ck4 (cH1 _) HX.out.next (fun _ h=>h.box) ?_;clear cH1;intro w2 HX2 c0 c1 c2 c3;have HX3:Hid (RIn W (inA bs fm d l) (W.heap.size+1) (w2.alloc (.cells #[.int .u8 c.toNat] 5))):=HX2.out.next bwA)
  |(refine stF 6 29 rfl rfl (W.heap.size+1) (0,0) rfl rfl ?_ ?_;exact HX3.out.flt))
 have hf:=qay HX3.out bwR (0,0)
 refine qcc results204 hf (.slice (some ⟨w2.heap.size,0,none⟩) 1 1) (.int .i64 ((i:Int)+1)) rfl rfl rfl rfl ⟨?_,hf.2⟩
 have hO:=(qbo w2 92 [.int .u8 c.toNat] 1 rfl (by rw[qdC 92 (by decide) (by decide),HV.out];rfl)).1
 exact⟨_,rfl,qbJ (qbn hO HX2.out.below.size) _ _ (qbH hO (ltA HX2.out.flt))⟩
theorem qjH (W:World)(bs:List UInt8)(fm d l _lim:Int)(i:Nat)(_hb:bs.length≤200000000)(_hil:i≤bs.length)(c:UInt8)(hc:bs[i]? = some c)(h1:qaz bs l i=true)(hv:c.toNat=47):Calls prog 204 #[.agg (inA bs fm d l),.int .i64 i] W fun e W'=>qbM W (.ok (47,i+1)) e W'∧Below W.heap.size W W':=by
 have hix:=qah bs i c hc
 have hib:=ltL hc
 have t34:=nec (c:=c) 34 (by omega)
 have t92:=nec (c:=c) 92 (by omega)
 have t47:((c.toNat:Int)==47)=true:=by rw[hv];rfl
 have cH1:=qap fm d h1
 have HX:=qbB W bs fm d l
 have HV:Hid (c.toNat=47):=hv
 clear h1 hc hv
 unfold inA
 go_enter func204,ntmps204
 go_wp2_with (first
  |(go_at_call 113;refine ck4 (cH1 _) HX.out.next (fun _ h=>h.box) ?_;clear cH1;intro w2 HX2 c0 c1 c2 c3;have HX3:Hid (RIn W (inA bs fm d l) (W.heap.size+1) (w2.alloc (.cells #[.int .u8 c.toNat] 5))):=HX2.out.next bwA)
  |(refine stF 6 29 rfl rfl (W.heap.size+1) (0,0) rfl rfl ?_ ?_;exact HX3.out.flt))
 have hf:=qay HX3.out bwR (0,0)
 refine qcc results204 hf (.slice (some ⟨w2.heap.size,0,none⟩) 1 1) (.int .i64 ((i:Int)+1)) rfl rfl rfl rfl ⟨?_,hf.2⟩
 have hO:=(qbo w2 47 [.int .u8 c.toNat] 1 rfl (by rw[qdC 47 (by decide) (by decide),HV.out];rfl)).1
 exact⟨_,rfl,qbJ (qbn hO HX2.out.below.size) _ _ (qbH hO (ltA HX2.out.flt))⟩
theorem qjV (W:World)(bs:List UInt8)(fm d l _lim:Int)(i:Nat)(_hb:bs.length≤200000000)(_hil:i≤bs.length)(c:UInt8)(hc:bs[i]? = some c)(h1:qaz bs l i=true)(hv:c.toNat=98):Calls prog 204 #[.agg (inA bs fm d l),.int .i64 i] W fun e W'=>qbM W (.ok (8,i+1)) e W'∧Below W.heap.size W W':=by
 have hix:=qah bs i c hc
 have hib:=ltL hc
 have t34:=nec (c:=c) 34 (by omega)
 have t92:=nec (c:=c) 92 (by omega)
 have t47:=nec (c:=c) 47 (by omega)
 have t98:((c.toNat:Int)==98)=true:=by rw[hv];rfl
 have cH1:=qap fm d h1
 have HX:=qbB W bs fm d l
 have HV:Hid (c.toNat=98):=hv
 clear h1 hc hv
 unfold inA
 go_enter func204,ntmps204
 go_wp2_with (first
  |(go_at_call 113;refine ck4 (cH1 _) HX.out.next (fun _ h=>h.box) ?_;clear cH1;intro w2 HX2 c0 c1 c2 c3;have HX3:Hid (RIn W (inA bs fm d l) (W.heap.size+1) (w2.alloc (.cells #[.int .u8 8] 5))):=HX2.out.next bwA)
  |(refine stF 6 35 rfl rfl (W.heap.size+1) (0,0) rfl rfl ?_ ?_;exact HX3.out.flt))
 have hf:=qay HX3.out bwR (0,0)
 refine qcc results204 hf (.slice (some ⟨w2.heap.size,0,none⟩) 1 1) (.int .i64 ((i:Int)+1)) rfl rfl rfl rfl ⟨?_,hf.2⟩
 have hO:=(qbo w2 8 [.int .u8 8] 1 rfl (by exact qdC 8 (by decide) (by decide))).1
 exact⟨_,rfl,qbJ (qbn hO HX2.out.below.size) _ _ (qbH hO (ltA HX2.out.flt))⟩
theorem qig (W:World)(bs:List UInt8)(fm d l _lim:Int)(i:Nat)(_hb:bs.length≤200000000)(_hil:i≤bs.length)(c:UInt8)(hc:bs[i]? = some c)(h1:qaz bs l i=true)(hv:c.toNat=102):Calls prog 204 #[.agg (inA bs fm d l),.int .i64 i] W fun e W'=>qbM W (.ok (12,i+1)) e W'∧Below W.heap.size W W':=by
 have hix:=qah bs i c hc
 have hib:=ltL hc
 have t34:=nec (c:=c) 34 (by omega)
 have t92:=nec (c:=c) 92 (by omega)
 have t47:=nec (c:=c) 47 (by omega)
 have t98:=nec (c:=c) 98 (by omega)
 have t102:((c.toNat:Int)==102)=true:=by rw[hv];rfl
 have cH1:=qap fm d h1
 have HX:=qbB W bs fm d l
 have HV:Hid (c.toNat=102):=hv
 clear h1 hc hv
 unfold inA
 go_enter func204,ntmps204
 go_wp2_with (first
  |(go_at_call 113;refine ck4 (cH1 _) HX.out.next (fun _ h=>h.box) ?_;clear cH1;intro w2 HX2 c0 c1 c2 c3;have HX3:Hid (RIn W (inA bs fm d l) (W.heap.size+1) (w2.alloc (.cells #[.int .u8 12] 5))):=HX2.out.next bwA)
  |(refine stF 6 41 rfl rfl (W.heap.size+1) (0,0) rfl rfl ?_ ?_;exact HX3.out.flt))
 have hf:=qay HX3.out bwR (0,0)
 refine qcc results204 hf (.slice (some ⟨w2.heap.size,0,none⟩) 1 1) (.int .i64 ((i:Int)+1)) rfl rfl rfl rfl ⟨?_,hf.2⟩
 have hO:=(qbo w2 12 [.int .u8 12] 1 rfl (by exact qdC 12 (by decide) (by decide))).1
 exact⟨_,rfl,qbJ (qbn hO HX2.out.below.size) _ _ (qbH hO (ltA HX2.out.flt))⟩
theorem qhS (W:World)(bs:List UInt8)(fm d l _lim:Int)(i:Nat)(_hb:bs.length≤200000000)(_hil:i≤bs.length)(c:UInt8)(hc:bs[i]? = some c)(h1:qaz bs l i=true)(hv:c.toNat=110):Calls prog 204 #[.agg (inA bs fm d l),.int .i64 i] W fun e W'=>qbM W (.ok (10,i+1)) e W'∧Below W.heap.size W W':=by
 have hix:=qah bs i c hc
 have hib:=ltL hc
 have t34:=nec (c:=c) 34 (by omega)
 have t92:=nec (c:=c) 92 (by omega)
 have t47:=nec (c:=c) 47 (by omega)
 have t98:=nec (c:=c) 98 (by omega)
 have t102:=nec (c:=c) 102 (by omega)
 have t110:((c.toNat:Int)==110)=true:=by rw[hv];rfl
 have cH1:=qap fm d h1
 have HX:=qbB W bs fm d l
 have HV:Hid (c.toNat=110):=hv
 clear h1 hc hv
 unfold inA
 go_enter func204,ntmps204
 go_wp2_with (first
  |(go_at_call 113;refine ck4 (cH1 _) HX.out.next (fun _ h=>h.box) ?_;clear cH1;intro w2 HX2 c0 c1 c2 c3;have HX3:Hid (RIn W (inA bs fm d l) (W.heap.size+1) (w2.alloc (.cells #[.int .u8 10] 5))):=HX2.out.next bwA)
  |(refine stF 6 47 rfl rfl (W.heap.size+1) (0,0) rfl rfl ?_ ?_;exact HX3.out.flt))
 have hf:=qay HX3.out bwR (0,0)
 refine qcc results204 hf (.slice (some ⟨w2.heap.size,0,none⟩) 1 1) (.int .i64 ((i:Int)+1)) rfl rfl rfl rfl ⟨?_,hf.2⟩
 have hO:=(qbo w2 10 [.int .u8 10] 1 rfl (by exact qdC 10 (by decide) (by decide))).1
 exact⟨_,rfl,qbJ (qbn hO HX2.out.below.size) _ _ (qbH hO (ltA HX2.out.flt))⟩
theorem qiu (W:World)(bs:List UInt8)(fm d l _lim:Int)(i:Nat)(_hb:bs.length≤200000000)(_hil:i≤bs.length)(c:UInt8)(hc:bs[i]? = some c)(h1:qaz bs l i=true)(hv:c.toNat=114):Calls prog 204 #[.agg (inA bs fm d l),.int .i64 i] W fun e W'=>qbM W (.ok (13,i+1)) e W'∧Below W.heap.size W W':=by
 have hix:=qah bs i c hc
 have hib:=ltL hc
 have t34:=nec (c:=c) 34 (by omega)
 have t92:=nec (c:=c) 92 (by omega)
 have t47:=nec (c:=c) 47 (by omega)
 have t98:=nec (c:=c) 98 (by omega)
 have t102:=nec (c:=c) 102 (by omega)
 have t110:=nec (c:=c) 110 (by omega)
 have t114:((c.toNat:Int)==114)=true:=by rw[hv];rfl
 have cH1:=qap fm d h1
 have HX:=qbB W bs fm d l
 have HV:Hid (c.toNat=114):=hv
 clear h1 hc hv
 unfold inA
 go_enter func204,ntmps204
 go_wp2_with (first
  |(go_at_call 113;refine ck4 (cH1 _) HX.out.next (fun _ h=>h.box) ?_;clear cH1;intro w2 HX2 c0 c1 c2 c3;have HX3:Hid (RIn W (inA bs fm d l) (W.heap.size+1) (w2.alloc (.cells #[.int .u8 13] 5))):=HX2.out.next bwA)
  |(refine stF 6 53 rfl rfl (W.heap.size+1) (0,0) rfl rfl ?_ ?_;exact HX3.out.flt))
 have hf:=qay HX3.out bwR (0,0)
 refine qcc results204 hf (.slice (some ⟨w2.heap.size,0,none⟩) 1 1) (.int .i64 ((i:Int)+1)) rfl rfl rfl rfl ⟨?_,hf.2⟩
 have hO:=(qbo w2 13 [.int .u8 13] 1 rfl (by exact qdC 13 (by decide) (by decide))).1
 exact⟨_,rfl,qbJ (qbn hO HX2.out.below.size) _ _ (qbH hO (ltA HX2.out.flt))⟩
theorem qif (W:World)(bs:List UInt8)(fm d l _lim:Int)(i:Nat)(_hb:bs.length≤200000000)(_hil:i≤bs.length)(c:UInt8)(hc:bs[i]? = some c)(h1:qaz bs l i=true)(hv:c.toNat=116):Calls prog 204 #[.agg (inA bs fm d l),.int .i64 i] W fun e W'=>qbM W (.ok (9,i+1)) e W'∧Below W.heap.size W W':=by
 have hix:=qah bs i c hc
 have hib:=ltL hc
 have t34:=nec (c:=c) 34 (by omega)
 have t92:=nec (c:=c) 92 (by omega)
 have t47:=nec (c:=c) 47 (by omega)
 have t98:=nec (c:=c) 98 (by omega)
 have t102:=nec (c:=c) 102 (by omega)
 have t110:=nec (c:=c) 110 (by omega)
 have t114:=nec (c:=c) 114 (by omega)
 have t116:((c.toNat:Int)==116)=true:=by rw[hv];rfl
 have cH1:=qap fm d h1
 have HX:=qbB W bs fm d l
 have HV:Hid (c.toNat=116):=hv
 clear h1 hc hv
 unfold inA
 go_enter func204,ntmps204
 go_wp2_with (first
  |(go_at_call 113;refine ck4 (cH1 _) HX.out.next (fun _ h=>h.box) ?_;clear cH1;intro w2 HX2 c0 c1 c2 c3;have HX3:Hid (RIn W (inA bs fm d l) (W.heap.size+1) (w2.alloc (.cells #[.int .u8 9] 5))):=HX2.out.next bwA)
  |(refine stF 6 59 rfl rfl (W.heap.size+1) (0,0) rfl rfl ?_ ?_;exact HX3.out.flt))
 have hf:=qay HX3.out bwR (0,0)
 refine qcc results204 hf (.slice (some ⟨w2.heap.size,0,none⟩) 1 1) (.int .i64 ((i:Int)+1)) rfl rfl rfl rfl ⟨?_,hf.2⟩
 have hO:=(qbo w2 9 [.int .u8 9] 1 rfl (by exact qdC 9 (by decide) (by decide))).1
 exact⟨_,rfl,qbJ (qbn hO HX2.out.below.size) _ _ (qbH hO (ltA HX2.out.flt))⟩
theorem qlR (W:World)(bs:List UInt8)(fm d l lim:Int)(i:Nat)(hb:bs.length≤200000000)(_hil:i≤bs.length)(c:UInt8)(hc:bs[i]? = some c)(h1:qaz bs l i=true)(hv:c.toNat=117)(hl:Lm bs l lim)(hi:InR bs lim (i+1)):Calls prog 204 #[.agg (inA bs fm d l),.int .i64 i] W fun e W'=>qbM W (qdr bs lim (i+1)) e W'∧Below W.heap.size W W':=by
 have hix:=qah bs i c hc
 have hib:=ltL hc
 have t34:=nec (c:=c) 34 (by omega)
 have t92:=nec (c:=c) 92 (by omega)
 have t47:=nec (c:=c) 47 (by omega)
 have t98:=nec (c:=c) 98 (by omega)
 have t102:=nec (c:=c) 102 (by omega)
 have t110:=nec (c:=c) 110 (by omega)
 have t114:=nec (c:=c) 114 (by omega)
 have t116:=nec (c:=c) 116 (by omega)
 have t117:((c.toNat:Int)==117)=true:=by rw[hv];rfl
 have cH1:=qap fm d h1
 have HX:=qbB W bs fm d l
 have cU:∀V,Calls prog 230 #[.agg #[.string ⟨bs.toArray⟩,.int .i64 fm,.int .i64 d,.int .i64 l],.int .i64 ((i:Int)+1)] V fun e W'=>qbM V (qdr bs lim (i+1)) e W'∧Below V.heap.size V W':=fun V=>qm6 V bs fm d l lim (i+1) hl hi hb
 clear h1 hc hv hl hi
 cases hr:qdr bs lim (i+1) with
 |error f =>
  rw[hr] at cU
  clear hr
  unfold inA
  go_enter func204,ntmps204
  go_wp2_with (first
   |(go_at_call 113;refine ck4 (cH1 _) HX.out.next (fun _ h=>h.box) ?_;clear cH1;intro w2 HX2 c0 c1 c2 c3)
   |(go_at_call 230;refine(cU _).mono ?_;clear cU c0 c1 c2 c3;rintro e w3 ⟨he,hB3⟩;obtain rfl:=he;have HX3:=qac (HX2.out.next hB3))
   |(refine stF 6 68 rfl rfl (W.heap.size+1) (f) rfl rfl ?_ ?_;exact HX3.out.flt))
  have hf:=qay HX3.out bwR (f)
  refine qcc results204 hf (.slice none 0 0) (.int .i64 0) rfl rfl rfl rfl ⟨?_,hf.2⟩
  rfl
 |ok r =>
  obtain⟨x,q⟩:=r
  rw[hr] at cU
  clear hr
  unfold inA
  go_enter func204,ntmps204
  go_wp2_with (first
   |(go_at_call 113;refine ck4 (cH1 _) HX.out.next (fun _ h=>h.box) ?_;clear cH1;intro w2 HX2 c0 c1 c2 c3)
   |(go_at_call 230;refine(cU _).mono ?_;clear cU c0 c1 c2 c3;rintro e w3 ⟨he,hB3⟩;obtain⟨v,rfl,hO⟩:=he;obtain⟨va,vn,vc,rfl⟩:=hO.2.2;have HO:Hid (Own w3 w2.heap.size (.slice va vn vc) _):=hO;clear hO;have HX3:=qac (HX2.out.next hB3))
   |(refine stF 6 68 rfl rfl (W.heap.size+1) (0,0) rfl rfl ?_ ?_;exact HX3.out.flt))
  have hf:=qay HX3.out bwR (0,0)
  refine qcc results204 hf (.slice va vn vc) (.int .i64 q) rfl rfl rfl rfl ⟨?_,hf.2⟩
  exact⟨_,rfl,qbJ (qbn HO.out HX2.out.below.size) _ _ (qbH HO.out (ltA HX2.out.flt))⟩
theorem qg4 (W:World)(bs:List UInt8)(fm d l _lim:Int)(i:Nat)(_hb:bs.length≤200000000)(_hil:i≤bs.length)(c:UInt8)(hc:bs[i]? = some c)(h1:qaz bs l i=true)(hn:∀x,x∈[34,92,47,98,102,110,114,116,117]→¬c.toNat=x)(h2:qaI bs l i 9=(9,(i:Int))):Calls prog 204 #[.agg (inA bs fm d l),.int .i64 i] W fun e W'=>qbM W (.error (9,(i:Int))) e W'∧Below W.heap.size W W':=by
 have hix:=qah bs i c hc
 have hib:=ltL hc
 have t34:((c.toNat:Int)==34)=false:=by simp;have:=hn 34 (by simp);omega
 have t92:((c.toNat:Int)==92)=false:=by simp;have:=hn 92 (by simp);omega
 have t47:((c.toNat:Int)==47)=false:=by simp;have:=hn 47 (by simp);omega
 have t98:((c.toNat:Int)==98)=false:=by simp;have:=hn 98 (by simp);omega
 have t102:((c.toNat:Int)==102)=false:=by simp;have:=hn 102 (by simp);omega
 have t110:((c.toNat:Int)==110)=false:=by simp;have:=hn 110 (by simp);omega
 have t114:((c.toNat:Int)==114)=false:=by simp;have:=hn 114 (by simp);omega
 have t116:((c.toNat:Int)==116)=false:=by simp;have:=hn 116 (by simp);omega
 have t117:((c.toNat:Int)==117)=false:=by simp;have:=hn 117 (by simp);omega
 have cH1:=qap fm d h1
 have cB1:=qcz fm d h2
 have HX:=qbB W bs fm d l
 clear h1 h2 hc hn
 unfold inA
 go_enter func204,ntmps204
 go_wp2_with (first
  |(go_at_call 113;refine ck4 (cH1 _) HX.out.next (fun _ h=>h.box) ?_;clear cH1;intro w2 HX2 c0 c1 c2 c3)
  |(go_at_call 71;refine ck4 (cB1 _) HX2.out.next (fun _ h=>h.box) ?_;clear cB1 c0 c1 c2 c3;intro w3 HX3 c0 c1 c2 c3)
  |(refine stF 6 71 rfl rfl (W.heap.size+1) (9,(i:Int)) rfl rfl ?_ ?_;exact HX3.out.flt))
 have hf:=qay HX3.out bwR (9,(i:Int))
 refine qcc results204 hf (.slice none 0 0) (.int .i64 0) rfl rfl rfl rfl ⟨?_,hf.2⟩
 rfl
theorem qju (W:World)(bs:List UInt8)(fm d l lim:Int)(i:Nat)(hl:Lm bs l lim)(hi:InR bs lim i)(hb:bs.length≤200000000):Calls prog 204 #[.agg (inA bs fm d l),.int .i64 i] W fun e W'=>qbM W (qh3 bs lim i) e W'∧Below W.heap.size W W':=by
 unfold qh3
 cases hc:bs[i]? with
 |none=>exact qgR W bs fm d l lim i hb hi.1 (9,(i:Int)) (qa9 hc) (qaH hi.1 hc 9)
 |some c =>
  simp only[]
  by_cases hp:(i:Int)=lim
  ·rw[if_pos hp]
   exact qgR W bs fm d l lim i hb hi.1 (8,(i:Int)) (qaJ hl hc hp) (qaU hl hc hp 9)
  ·rw[if_neg hp]
   have h1:=qa7 hl hi hc hp
   by_cases h34:c.toNat=34
   ·rw[if_pos h34]
    exact qjv W bs fm d l lim i hb hi.1 c hc h1 h34
   rw[if_neg h34]
   by_cases h92:c.toNat=92
   ·rw[if_pos h92]
    exact qkb W bs fm d l lim i hb hi.1 c hc h1 h92
   rw[if_neg h92]
   by_cases h47:c.toNat=47
   ·rw[if_pos h47]
    exact qjH W bs fm d l lim i hb hi.1 c hc h1 h47
   rw[if_neg h47]
   by_cases h98:c.toNat=98
   ·rw[if_pos h98]
    exact qjV W bs fm d l lim i hb hi.1 c hc h1 h98
   rw[if_neg h98]
   by_cases h102:c.toNat=102
   ·rw[if_pos h102]
    exact qig W bs fm d l lim i hb hi.1 c hc h1 h102
   rw[if_neg h102]
   by_cases h110:c.toNat=110
   ·rw[if_pos h110]
    exact qhS W bs fm d l lim i hb hi.1 c hc h1 h110
   rw[if_neg h110]
   by_cases h114:c.toNat=114
   ·rw[if_pos h114]
    exact qiu W bs fm d l lim i hb hi.1 c hc h1 h114
   rw[if_neg h114]
   by_cases h116:c.toNat=116
   ·rw[if_pos h116]
    exact qif W bs fm d l lim i hb hi.1 c hc h1 h116
   rw[if_neg h116]
   by_cases h117:c.toNat=117
   ·rw[if_pos h117]
    exact qlR W bs fm d l lim i hb hi.1 c hc h1 h117 hl (qav hi hc hp)
   rw[if_neg h117]
   refine qg4 W bs fm d l lim i hb hi.1 c hc h1 (fun x hx => ?_) (qa6 hl hi hc hp 9)
   simp only[List.mem_cons,List.not_mem_nil,or_false] at hx
   rcases hx with rfl|rfl|rfl|rfl|rfl|rfl|rfl|rfl|rfl
   all_goals assumption
theorem qjc {W W':World}{b:Nat}{v:Value}{bs:List UInt8}(h:Own W b v bs)(hB:Below W.heap.size W W'):Own W' b v bs:=by
 obtain⟨⟨h1,h2⟩,h3,h4⟩:=h
 refine⟨⟨h1,?_⟩,Nat.le_trans h3 hB.size,h4⟩
 rcases h2 with h2|⟨g,cap,cur,a,b,c,d⟩
 ·exact .inl h2
 ·exact .inr ⟨g,cap,cur,a,b,(hB.block _ (ltA c)).trans c,d⟩
structure qfW (W:World)(A:Array Value)(v:Value)(acc:List UInt8)(V:World):Prop where
 box:V.heap[W.heap.size]? = some (.cells A 143)
 flt:V.heap[W.heap.size+1]? = some (.cells (qae (0,0)) 95)
 own:Own V (W.heap.size+2) v acc
 below:Below W.heap.size W V
theorem qfW.next {W V V':World}{A:Array Value}{v:Value}{acc:List UInt8}(h:qfW W A v acc V)(hb:Below V.heap.size V V'):qfW W A v acc V' :=
 ⟨(hb.block _ (ltA h.box)).trans h.box,(hb.block _ (ltA h.flt)).trans h.flt,qjc h.own hb,h.below.trans (hb.mono h.below.size)⟩
theorem qfW.drew {W V:World}{A:Array Value}{v:Value}{acc:List UInt8}(h:qfW W A v acc V):qfW W A v acc V.drew:=⟨h.box,h.flt,h.own,h.below.drew⟩
theorem qfW.grow {W V V':World}{A:Array Value}{v v':Value}{acc acc':List UInt8}(h:qfW W A v acc V)(hg:V.grownBy V' v.ownBlock)(ho:Own V' (W.heap.size+2) v' acc'):qfW W A v' acc' V':=by
 have hn:∀k,k<W.heap.size+2→some k≠v.ownBlock:=fun k hk e=>by have:=qaQ h.own.1 e.symm;omega
 exact⟨(hg.block _ (ltA h.box) (hn _ (by omega))).trans h.box,(hg.block _ (ltA h.flt) (hn _ (by omega))).trans h.flt,ho,
  h.below.trans ⟨hg.os,hg.tape,hg.output,hg.size,fun i hi=>hg.block i (Nat.lt_of_lt_of_le hi h.below.size) (hn _ (by omega))⟩⟩
theorem qal (V:World)(f:Int×Int):Below V.heap.size V ((V.alloc (.cells (qae (0,0)) 95)).setRow V.heap.size (qae f)):=qai bwA (Nat.le_refl _) _
theorem qfW.fin {W V:World}{A:Array Value}{v:Value}{acc:List UInt8}(h:qfW W A v acc V)(g:Int×Int):(V.setRow (W.heap.size+1) (qae g)).heap[W.heap.size+1]? = some (.cells (qae g) 95)∧Below W.heap.size W (V.setRow (W.heap.size+1) (qae g)) :=
 ⟨setRow_heap _ _ _ _ _ _ h.flt,qai h.below (by omega) _⟩
theorem qnV (W:World)(A:Array Value):qfW W A (.slice none 0 0) [] ((W.alloc (.cells A 143)).alloc (.cells (qae (0,0)) 95)) :=
 ⟨(qdc W A).box,(qdc W A).flt,⟨World.ownsRow_nil _ _ _ _,by simp,none,0,0,rfl⟩,(qdc W A).below⟩
def qlZ (r:Except (Int×Int) (List UInt8×Nat))(e:Ending):Prop:=match r with
 |.ok (x,q)=>e=.returned (.tuple #[.string ⟨x.toArray⟩,.int .i64 q,.agg (qae (0,0))])
 |.error f=>e=.returned (.tuple #[.string ⟨#[]⟩,.int .i64 0,.agg (qae f)])
theorem qiZ {bs:List UInt8}{l lim:Int}{k:Nat}(hl:Lm bs l lim)(hk:k<bs.length)(hkl:(k:Int)<lim):min (bs.length:Int) l=min (bs.length:Int) lim:=by
 have h1:=hl k hk
 have h2:=hl (bs.length-1) (by omega)
 by_cases h3:l<bs.length
 ·have h4:=hl l.toNat (by omega)
  have h5:=hl (l.toNat-1) (by omega)
  omega
 ·omega
theorem qf2 (bs:List UInt8)(p j:Nat):(⟨bs.toArray⟩:ByteArray).extract p (p+j)=⟨(qaL bs p j).toArray⟩:=by
 apply ByteArray.ext
 apply Array.toList_inj.1
 rw[Lib.extract_data]
 simp[qaL]
theorem qkT {W:World}{b:Nat}{v:Value}{l:List UInt8}(h:Own W b v l)(hl:0<l.length):∃g cap,v=.slice (some ⟨g,0,none⟩) l.length cap:=by
 rcases h.1.2 with ⟨_,h0⟩|⟨g,cap,cur,e,_⟩
 ·omega
 ·exact⟨g,cap,e⟩
theorem qjC {W:World}{b g cap:Nat}{l:List UInt8}(h:Own W b (.slice (some ⟨g,0,none⟩) l.length cap) l):∀j u,(l.map qaX)[j]? = some u→W.cell? ((⟨g,0,none⟩:Addr).add j)=some u:=h.1.cells (g:=g) rfl
theorem qn3 {W W':World}{base:Nat}{v v':Value}{bs l:List UInt8}(h:Own W base v bs)(hown:W'.ownsRow base 5 1 v' (bs.length+l.length) (bs.map qaX++l.map qaX))(hg:W.grownBy W' v.ownBlock):Own W' base v' (bs++l):=by
 refine⟨by rw[List.length_append,List.map_append];exact hown,Nat.le_trans h.2.1 hg.size,?_⟩
 rcases hown.2 with ⟨e,_⟩|⟨g,cap,cur,e,_⟩
 ·exact⟨none,0,0,e⟩
 ·exact⟨_,_,_,e⟩
theorem qlS (l:List UInt8):∀u∈l.map qaX,u.oneCell'=true:=fun u hu=>by
 obtain⟨b,_,rfl⟩:=List.mem_map.1 hu
 rfl
theorem qkp (r:Int):0<(qaF r).length:=by
 unfold qaF
 rw[List.length_map]
 exact(encodeRuneZ_length r).1
theorem qjb {bs:List UInt8}{lim:Int}{p q:Nat}{r:Int}(hi:InR bs lim p)(h:qh3 bs lim p=.ok (r,q)):InR bs lim q∧p<q:=by
 unfold qh3 at h
 cases hc:bs[p]? with
 |none=>rw[hc] at h;cases h
 |some c =>
  rw[hc] at h
  simp only[] at h
  by_cases hp:(p:Int)=lim
  ·rw[if_pos hp] at h;cases h
  ·rw[if_neg hp] at h
   have hn:=qav hi hc hp
   repeat' split at h
   all_goals first
    |(cases h;done)
    |(injection h with h;injection h with _ h;subst h;exact⟨hn,by omega⟩)
    |skip
   rename_i hu
   unfold qdr at h
   cases h1:qbY bs lim 4 (p+1) 0 with
   |error f=>rw[h1] at h;cases h
   |ok x =>
    obtain⟨x,q1⟩:=x
    obtain⟨e1,i1,_⟩:=qaM 4 (p+1) 0 x q1 hn h1
    rw[h1] at h
    simp only[] at h
    split at h
    ·cases h
    ·split at h
     ·cases h2:qaw bs lim [92,117] q1 with
      |error f=>rw[h2] at h;cases h
      |ok x2 =>
       obtain⟨u,q2⟩:=x2
       obtain⟨e2,i2⟩:=qba [92,117] q1 q2 i1 h2
       have e2':q2=q1+2:=e2
       rw[h2] at h
       simp only[] at h
       cases h3:qbY bs lim 4 q2 0 with
       |error f=>rw[h3] at h;cases h
       |ok y =>
        obtain⟨y,q3⟩:=y
        obtain⟨e3,i3,_⟩:=qaM 4 q2 0 y q3 i2 h3
        rw[h3] at h
        simp only[] at h
        split at h
        ·injection h with h
         injection h with _ h
         subst h
         exact⟨i3,by omega⟩
        ·cases h
     ·injection h with h
      injection h with _ h
      subst h
      exact⟨i1,by omega⟩
theorem qmG (r:Int):(qaF r).length≤4:=by
 unfold qaF
 rw[List.length_map]
 exact(encodeRuneZ_length r).2
theorem qce (W:World)(bs:List UInt8)(fm d l lim:Int)(i:Nat)(hl:Lm bs l lim)(hi:InR bs lim (i+1))(hb:bs.length≤200000000):Calls prog 171 #[.agg (inA bs fm d l),.int .i64 i] W fun e W'=>qlZ (qbu bs lim (bs.length+1-(i+1)) (i+1) [] 0) e∧Below W.heap.size W W':=by
 obtain⟨i0,hi0,hz0,hz1,hz2⟩:=info_parts Tryz.infoU8
 obtain⟨R,HR⟩:∃R,Hid (qbu bs lim (bs.length+1-(i+1)) (i+1) [] 0=R):=⟨_,show _=_ from rfl⟩
 rw[HR.out]
 have hil:=hi.1
 have hsz:=qaS bs
 have HL:Hid (Lm bs l lim):=hl
 have HI:Hid (InR bs lim (i+1)):=hi
 have cH:=qdb bs fm d l
 have cB:=qdu bs fm d l
 have cE:∀V (k:Nat),InR bs lim k→Calls prog 204 #[.agg #[.string ⟨bs.toArray⟩,.int .i64 fm,.int .i64 d,.int .i64 l],.int .i64 k] V fun e W'=>qbM V (qh3 bs lim k) e W'∧Below V.heap.size V W':=fun V k hk=>qju V bs fm d l lim k hl hk hb
 clear hl hi
 unfold inA
 go_enter func171,ntmps171
 go_wp2
 go_loopg [1,7] (bs.length+1-(i+1)) (fun g z y wr=>∃(k:Nat) (acc:List UInt8) (a:Option Addr) (n c:Nat),z=.int .i64 k∧y=.slice a n c∧Hid (bs.length+1≤k+g)∧Hid (acc.length≤4*k)∧Hid (qfW W (inA bs fm d l) (.slice a n c) acc wr)∧Hid (InR bs lim k)∧Hid (qbu bs lim g k acc acc.length=R))
 case atStart=>exact⟨i+1,[],none,0,0,rfl,rfl,by show _≤_;omega,Nat.zero_le _,qnV _ _,HI,HR⟩
 case round =>
  clear HR HI
  obtain⟨k,acc,a,n,c,rfl,rfl,hg,ha,HX,HI,HR⟩:=hrel
  have hkl:k≤bs.length:=HI.out.1
  obtain⟨g,rfl⟩:∃g,gk=g+1:=⟨gk-1,by have:=hg.out;omega⟩
  obtain⟨c0,c1,c2,c3⟩:=qa3 HX.out.box
  have cH1:=fun V=>cH V k
  have cB1:=fun V=>cB V k 9
  have hr:=HR.out
  rw[qbu] at hr
  cases hc:bs[k]? with
  |none =>
   rw[hc] at hr
   simp only[] at hr
   rw[qa9 hc] at cH1
   rw[qaH hkl hc] at cB1
   have HE:Hid (R=.error (9,(k:Int))):=hr.symm
   clear hr hc cB cH cE HR hg ha
   go_wp2_with (first
    |(go_at_call 113;refine ck4 (cH1 _) HX.out.next (fun _ h=>h.box) ?_;clear cH1 c0 c1 c2 c3;intro w2 HX2 c0 c1 c2 c3)
    |(go_at_call 71;refine ck4 (cB1 _) HX2.out.next (fun _ h=>h.box) ?_;clear cB1 c0 c1 c2 c3;intro w3 HX3 c0 c1 c2 c3)
    |(refine stF 6 29 rfl rfl (W.heap.size+1) (9,(k:Int)) rfl rfl ?_ ?_;exact HX3.out.flt))
   have hf:=HX3.out.fin (9,(k:Int))
   refine qcc results171 hf (.string ⟨#[]⟩) (.int .i64 0) rfl rfl rfl rfl ⟨?_,hf.2⟩
   rw[HE.out]
   rfl
  |some ch =>
   rw[hc] at hr
   simp only[] at hr
   have hix:=fun V=>qah bs k ch hc V
   have hkb:=ltL hc
   by_cases hp:(k:Int)=lim
   ·rw[if_pos hp] at hr
    rw[qaJ HL.out hc hp] at cH1
    rw[qaU HL.out hc hp] at cB1
    have HE:Hid (R=.error (8,(k:Int))):=hr.symm
    clear hr hc cB cH cE HR hg ha hp hix
    go_wp2_with (first
     |(go_at_call 113;refine ck4 (cH1 _) HX.out.next (fun _ h=>h.box) ?_;clear cH1 c0 c1 c2 c3;intro w2 HX2 c0 c1 c2 c3)
     |(go_at_call 71;refine ck4 (cB1 _) HX2.out.next (fun _ h=>h.box) ?_;clear cB1 c0 c1 c2 c3;intro w3 HX3 c0 c1 c2 c3)
     |(refine stF 6 29 rfl rfl (W.heap.size+1) (8,(k:Int)) rfl rfl ?_ ?_;exact HX3.out.flt))
    have hf:=HX3.out.fin (8,(k:Int))
    refine qcc results171 hf (.string ⟨#[]⟩) (.int .i64 0) rfl rfl rfl rfl ⟨?_,hf.2⟩
    rw[HE.out]
    rfl
   ·rw[if_neg hp] at hr
    rw[qa7 HL.out HI.out hc hp] at cH1
    rw[qa6 HL.out HI.out hc hp] at cB1
    by_cases h32:ch.toNat<32
    ·rw[if_neg (by omega),if_neg (by omega),if_pos h32] at hr
     have HE:Hid (R=.error (9,(k:Int))):=hr.symm
     have g32:(ch.toNat:Int)<32:=by omega
     clear hr hc cB cH cE HR hg ha hp h32
     go_wp2_with (first
      |(go_at_call 113;refine ck4 (cH1 _) HX.out.next (fun _ h=>h.box) ?_;clear cH1 c0 c1 c2 c3;intro w2 HX2 c0 c1 c2 c3)
      |(go_at_call 71;refine ck4 (cB1 _) HX2.out.next (fun _ h=>h.box) ?_;clear cB1 c0 c1 c2 c3;intro w3 HX3 c0 c1 c2 c3)
      |(refine stF 6 29 rfl rfl (W.heap.size+1) (9,(k:Int)) rfl rfl ?_ ?_;exact HX3.out.flt))
     have hf:=HX3.out.fin (9,(k:Int))
     refine qcc results171 hf (.string ⟨#[]⟩) (.int .i64 0) rfl rfl rfl rfl ⟨?_,hf.2⟩
     rw[HE.out]
     rfl
    ·have g32:decide ((ch.toNat:Int)<32)=false:=by simp;omega
     have q32:32≤(ch.toNat:Int):=by omega
     clear cB1
     by_cases h34:ch.toNat=34
     ·rw[if_pos ⟨h34,trivial⟩] at hr
      have HE:Hid (R=.ok (acc,k+1)):=hr.symm
      have t34:((ch.toNat:Int)==34)=true:=by rw[h34];rfl
      have hcv:∀V,qfW W (inA bs fm d l) (.slice a n c) acc V→(convert 28 9 (.slice a n c)).run prog V=.ok (.string ⟨acc.toArray⟩) V:=fun V h=>qf9 h.own
      clear hr hc cB cH cE HR hg ha hp h32 h34
      go_wp2_with (first
       |(go_at_call 113;refine ck4 (cH1 _) HX.out.next (fun _ h=>h.box) ?_;clear cH1 c0 c1 c2 c3;intro w2 HX2 c0 c1 c2 c3;have hcv2:=hcv _ HX2.out;clear hcv)
       |(refine stF 6 73 rfl rfl (W.heap.size+1) (0,0) rfl rfl ?_ ?_;exact HX2.out.flt))
      have hf:=HX2.out.fin (0,0)
      refine qcc results171 hf (.string ⟨acc.toArray⟩) (.int .i64 ((k:Int)+1)) rfl rfl rfl rfl ⟨?_,hf.2⟩
      rw[HE.out]
      rfl
     ·rw[if_neg (fun h=>h34 h.1)] at hr
      have t34:((ch.toNat:Int)==34)=false:=by simp;omega
      by_cases h92:ch.toNat=92
      ·rw[if_pos ⟨h92,trivial⟩] at hr
       have t92:((ch.toNat:Int)==92)=true:=by rw[h92];rfl
       have cE1:=fun V=>cE V (k+1) (qav HI.out hc hp)
       rw[show((k+1:Nat):Int)=(k:Int)+1 by omega] at cE1
       have hep:=fun r q h=>qjb (r:=r) (q:=q) (qav HI.out hc hp) h
       have hbad:=fun f=>qfw bs lim (k+1) f
       cases hes:qh3 bs lim (k+1) with
       |error f =>
        rw[hes] at hr cE1
        have HE:Hid (R=.error f):=hr.symm
        have hne:(f.1==0)=false:=by have:=qfw bs lim (k+1) f.1 f.2 hes;simpa using this
        clear hr hc cB cH cE HR hg ha hp h32 h34 h92 hep hbad hes
        go_wp2_with (first
         |(go_at_call 113;refine ck4 (cH1 _) HX.out.next (fun _ h=>h.box) ?_;clear cH1 c0 c1 c2 c3;intro w2 HX2 c0 c1 c2 c3)
         |(go_at_call 204;refine(cE1 _).mono ?_;clear cE1 c0 c1 c2 c3;rintro e w3 ⟨he,hB3⟩;obtain rfl:=he;have HX3:=qac (HX2.out.next hB3))
         |(refine stF 10 83 rfl rfl (w3.heap.size) (f) rfl rfl ?_ ?_;exact qab w3 _;refine nmd ?_;intro V4 EV4;have HX4:Hid (qfW W (inA bs fm d l) (.slice a n c) acc V4):=EV4▸HX3.out.next (qal _ _);have HM:Hid (V4.heap[w3.heap.size]? = some (.cells (qae (f)) 95)):=EV4▸setRow_heap _ _ _ _ _ _ (qab _ _);have HLT:Hid (W.heap.size+1<w3.heap.size):=ltA HX3.out.flt;clear EV4;generalize w3.heap.size=M at *;have u0:=qaa HM.out 0;unfold qae at u0))
        refine rgn (S:=fun Z=>Z.heap[M]? = some (.cells (qae f) 95)) (HM.out) (by kernel_rfl) ?_
        intro hS
        refine tkk 1 4 (.string ⟨#[]⟩) (by kernel_rfl) iQ3 hS ?_
        refine tkk 2 5 (.int .i64 0) (by kernel_rfl) iQ3 hS ?_
        refine tk 0 87 (.agg (qae f)) rfl (by kernel_rfl) iQ3 (fun Z hZ=>yF 10 hZ rfl rfl) hS ?_
        refine rdH 3 rfl (by kernel_rfl) (fun K hK => ?_)
        rw[if_pos (by kernel_rfl)]
        refine wp_store_row 95 _ _ rfl (W.heap.size+1) (qae f) rfl rfl 95 (qae (0,0)) HX4.out.drew.flt (qaT _) rfl (qb7 _) ?_
        refine hK.out _ _ (sx (by have:=HLT.out;omega) hS) (fun _ => ?_)
        clear hK
        refine wpAnyH_done (by kernel_rfl) ?_ _
        go_simp
        clear u0
        go_wp2
        have hf:=HX4.out.drew.fin (f)
        refine qcc results171 hf (.string ⟨#[]⟩) (.int .i64 0) rfl rfl rfl rfl ⟨?_,hf.2⟩
        rw[HE.out]
        rfl
       |ok x =>
        obtain⟨r,q⟩:=x
        rw[hes] at hr cE1
        have HN:Hid (qbu bs lim g q (acc++qaF r) (acc++qaF r).length=R):=hr
        obtain⟨hqi,hkq⟩:=hep r q hes
        have HQI:Hid (InR bs lim q):=hqi
        have HKQ:Hid (k+1<q):=hkq
        have hr4:=qmG r
        have hr0:=qkp r
        have hal:acc.length≤800000000:=by have:=ha.out;omega
        clear hr hc cB cH cE HR hp h32 h34 h92 hep hbad hes hqi hkq
        go_wp2_with (first
         |(go_at_call 113;refine ck4 (cH1 _) HX.out.next (fun _ h=>h.box) ?_;clear cH1 c0 c1 c2 c3;intro w2 HX2 c0 c1 c2 c3)
         |(go_at_call 204;refine(cE1 _).mono ?_;clear cE1 c0 c1 c2 c3;rintro e w3 ⟨he,hB3⟩;obtain⟨v,rfl,hO⟩:=he;obtain⟨vg,vc,rfl⟩:=qkT hO hr0;have HO3:Hid (Own w3 w2.heap.size (.slice (some ⟨vg,0,none⟩) (qaF r).length vc) (qaF r)):=hO;clear hO;have HX3:=qac (HX2.out.next hB3))
         |(refine stF 10 83 rfl rfl (w3.heap.size) (0,0) rfl rfl ?_ ?_;exact qab w3 _;refine nmd ?_;intro V4 EV4;have HX4:Hid (qfW W (inA bs fm d l) (.slice a n c) acc V4):=EV4▸HX3.out.next (qal _ _);have HM:Hid (V4.heap[w3.heap.size]? = some (.cells (qae (0,0)) 95)):=EV4▸setRow_heap _ _ _ _ _ _ (qab _ _);have HO4:Hid (Own V4 w2.heap.size (.slice (some ⟨vg,0,none⟩) (qaF r).length vc) (qaF r)):=EV4▸qjc HO3.out (qal _ _);have HLT:Hid (W.heap.size+1<w3.heap.size):=ltA HX3.out.flt;clear EV4;generalize w3.heap.size=M at *;have u0:=qaa HM.out 0;unfold qae at u0)
         |(at_builtin;(refine wpList_append_own _ rfl _ _ 28 rfl (W.heap.size+2) 5 i0 (.int .u8 0) 1 1 underlying28 hi0 hz0 hz1 hz2 rfl (by decide) _ _ _ rfl HX4.out.own.1 ⟨vg,0,none⟩ (qaF r).length vc ((qaF r).map qaX) rfl (by simp) (qjC HO4.out) (qlS _) (by unfold maxLen;omega) (by omega) HX4.out.own.2.1 ?_);intro v' w5 hown' hgrow5 hnil5;clear hnil5;have HO5:=qn3 HX4.out.own hown' hgrow5;obtain⟨a5,n5,c5,rfl⟩:=HO5.2.2;have HX5:Hid (qfW W (inA bs fm d l) (.slice a5 n5 c5) (acc++qaF r) w5):=HX4.out.grow hgrow5 HO5;clear hown' hgrow5 HO5))
        go_roundg g
        case measure=>omega
        case rel=>exact⟨q,acc++qaF r,a5,n5,c5,rfl,rfl,by show _≤_;have:=hg.out;have:=HKQ.out;omega,by show _≤_;rw[List.length_append];have:=ha.out;have:=HKQ.out;omega,HX5,HQI,HN⟩
      ·rw[if_neg (fun h=>h92 h.1)] at hr
       have t92:((ch.toNat:Int)==92)=false:=by simp;omega
       have hkl2:(k:Int)<lim:=by have:=HI.out.2;omega
       have hmn:=qiZ HL.out hkb hkl2
       obtain⟨nn,hnn⟩:∃nn:Nat,(nn:Int)=min (bs.length:Int) lim:=⟨(min (bs.length:Int) lim).toNat,by omega⟩
       have hchar:=qmJ HL.out hnn HI.out hc hp h34 h92 h32 acc (g+1) hg.out
       rw[HR.out] at hchar
       rw[←hnn] at hmn
       have cG:=fun V=>qcC V bs k nn ch hc hb (by omega)
       have hnl:nn≤bs.length:=by omega
       have cB2:=cB
       obtain⟨j,b,hbf⟩:∃j b,qkn bs nn k ch=(j,b):=⟨_,_,rfl⟩
       rw[hbf] at hchar cG
       cases b
       ·simp only[] at hchar
        obtain⟨hji,hje⟩:=hchar
        have HE:Hid (R=.error (qaI bs l (k+j) 9)):=hje
        have cB1:=fun V=>cB V (k+j) 9
        rw[show((k+j:Nat):Int)=(k:Int)+(j:Int) by omega] at cB1
        have hjl:k+j≤bs.length:=hji.1
        generalize qaI bs l (k+j) 9=xx at *
        clear hr hc cB cB2 cH cE HR hp h32 h34 h92 hnn hbf hji hje hkl2 ha
        have cG2:∀V,Calls prog 68 #[.string ⟨bs.toArray⟩,.int .i64 k,.int .i64 nn] V fun e W'=>e=.returned (.tuple #[.int .i64 j,.bool false])∧W'=V:=cG
        clear cG
        go_wp2_with (first
         |(go_at_call 113;refine ck4 (cH1 _) HX.out.next (fun _ h=>h.box) ?_;clear cH1 c0 c1 c2 c3;intro w2 HX2 c0 c1 c2 c3)
         |(go_at_call 68;refine(cG2 _).mono ?_;clear cG2;rintro e w3 ⟨rfl,hw3⟩;subst hw3)
         |(go_at_call 71;refine ck4 (cB1 _) HX2.out.next (fun _ h=>h.box) ?_;clear cB1 c0 c1 c2 c3;intro w4 HX4 c0 c1 c2 c3)
         |(refine stF 6 54 rfl rfl (W.heap.size+1) (xx) rfl rfl ?_ ?_;exact HX4.out.flt))
        have hf:=HX4.out.fin (xx)
        refine qcc results171 hf (.string ⟨#[]⟩) (.int .i64 0) rfl rfl rfl rfl ⟨?_,hf.2⟩
        rw[HE.out]
        rfl
       ·simp only[] at hchar
        obtain⟨hj1,hji,hjg,hje⟩:=hchar
        have HN:Hid (qbu bs lim (g+1-j) (k+j) (acc++qaL bs k j) (acc++qaL bs k j).length=R):=hje.symm
        have HJI:Hid (InR bs lim (k+j)):=hji
        have hjl:k+j≤bs.length:=hji.1
        have hcl:=qel (bs:=bs) (p:=k) (k:=j) hjl
        have HEX:Hid ((⟨bs.toArray⟩:ByteArray).extract (k:Int).toNat ((k:Int)+(j:Int)).toNat=⟨(qaL bs k j).toArray⟩):=by
         show _=_
         rw[show(k:Int).toNat=k by omega,show((k:Int)+(j:Int)).toNat=k+j by omega]
         exact qf2 bs k j
        have hcs:=qaS (qaL bs k j)
        have hal:acc.length≤800000000:=by have:=ha.out;omega
        clear hr hc cB cB2 cH cE HR hp h32 h34 h92 hnn hbf hji hje hkl2
        have cG2:∀V,Calls prog 68 #[.string ⟨bs.toArray⟩,.int .i64 k,.int .i64 nn] V fun e W'=>e=.returned (.tuple #[.int .i64 j,.bool true])∧W'=V:=cG
        clear cG
        go_wp2_with (first
         |(go_at_call 113;refine ck4 (cH1 _) HX.out.next (fun _ h=>h.box) ?_;clear cH1 c0 c1 c2 c3;intro w2 HX2 c0 c1 c2 c3)
         |(go_at_call 68;refine(cG2 _).mono ?_;clear cG2;rintro e w3 ⟨rfl,hw3⟩;subst hw3)
         |(at_builtin;(refine wpList_append_own_string _ rfl _ _ 28 9 rfl (W.heap.size+2) 5 i0 underlying28 underlying9 hi0 hz0 hz1 hz2 _ _ _ rfl HX2.out.own.1 ((⟨bs.toArray⟩:ByteArray).extract (k:Int).toNat ((k:Int)+(j:Int)).toNat) rfl (by rw[HEX.out,hcs,hcl];unfold maxLen;omega) (by rw[HEX.out,hcs,hcl];omega) HX2.out.own.2.1 ?_);intro v' w5 hown' hgrow5 hnil5;clear hnil5;rw[HEX.out] at hown';obtain⟨HO5,_⟩:=qgd HX2.out.own hown' hgrow5;obtain⟨a5,n5,c5,rfl⟩:=HO5.2.2;have HX5:Hid (qfW W (inA bs fm d l) (.slice a5 n5 c5) (acc++qaL bs k j) w5):=HX2.out.grow hgrow5 HO5;clear hown' hgrow5 HO5))
        go_roundg (g+1-j)
        case measure=>omega
        case rel=>exact⟨k+j,acc++qaL bs k j,a5,n5,c5,by go_num,rfl,by show _≤_;have:=hg.out;omega,by show _≤_;rw[List.length_append,hcl];have:=ha.out;omega,HX5,HJI,HN⟩
end
end Go.Proofs.YtllcbnfmihfaaaaGreatDoor
