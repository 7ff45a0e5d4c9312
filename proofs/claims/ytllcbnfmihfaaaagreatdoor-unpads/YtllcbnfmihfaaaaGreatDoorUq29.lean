import Derived.Test.YtllcbnfmihfaaaaGreatDoorUq28
import Derived.Test.YtllcbnfmihfaaaaGreatDoorUq26
import Derived.Test.YtllcbnfmihfaaaaGreatDoorUq27
set_option maxRecDepth 100000
set_option maxHeartbeats 8000000
namespace Go.Proofs.YtllcbnfmihfaaaaGreatDoor
open Go.Proofs.Tryz
section
open Go.RowKit Go.Lib
theorem qet {bs:List UInt8}{lim:Int}{i:Nat}{c x:UInt8}{xs:List UInt8}(hc:bs[i]? = some c)(hp:¬(i:Int)=lim)(hx:c=x):qaw bs lim (x::xs) i=qaw bs lim xs (i+1):=by
 rw[qaw,hc]
 simp only[]
 rw[if_neg hp,if_pos hx]
theorem qdT {bs:List UInt8}{lim:Int}:∀(g p:Nat) (acc:List UInt8) (wh:Nat) (x:List UInt8) (q:Nat),InR bs lim p→qbu bs lim g p acc wh=.ok (x,q)→InR bs lim q
 |0,p,acc,wh,x,q,_,h=>by rw[qbu] at h;cases h
 |g+1,p,acc,wh,x,q,hi,h=>by
  rw[qbu] at h
  cases hc:bs[p]? with
  |none=>rw[hc] at h;cases h
  |some c =>
   rw[hc] at h
   simp only[] at h
   by_cases hp:(p:Int)=lim
   ·rw[if_pos hp] at h;cases h
   ·rw[if_neg hp] at h
    have hn:=qav hi hc hp
    split at h
    ·injection h with h
     injection h with _ h
     subst h
     exact hn
    ·split at h
     ·cases he:qh3 bs lim (p+1) with
      |error f=>rw[he] at h;cases h
      |ok y =>
       obtain⟨r,q1⟩:=y
       rw[he] at h
       exact qdT g q1 _ _ x q (qjb hn he).1 h
     ·split at h
      ·cases h
      ·split at h
       ·cases h
       ·exact qdT g (p+1) _ _ x q hn h
theorem qiN {k:Nat}{w2 w3:World}{B N:Nat}{v:Value}{d:DataW Unit}{y:Array Value}{x:Int×Int}(h:qbD k w3 (fun j=>w2.heap.size≤j∧j<w3.heap.size) v d)(hB:B≤w2.heap.size)(hN:N+2<w2.heap.size):qbD k ((w3.setRow (N+1) y).setRow (N+2) (qae x)) (fun j=>B≤j∧j<((w3.setRow (N+1) y).setRow (N+2) (qae x)).heap.size) v d:=by
 refine h.same (fun j hj=>⟨by omega,?a⟩) (fun j hj => ?b)
 case a =>
  have:=hj.2
  simpa using this
 case b=>rw[setRow_other _ _ _ _ (by omega),setRow_other _ _ _ _ (by omega)]
def qoo (r:Except (Int×Int) (Int×Nat)):Except (Int×Int) (DataW Unit×Nat):=match r with
 |.error e=>.error e
 |.ok (z,q)=>.ok (.lit (.int .i64 z),q)
theorem qjh {bs:List UInt8}{lim:Int}{r:Except (Int×Int) (Int×Nat)}{f:Int×Int}(h:qaZ bs lim r (.error f)):qaZ bs lim (qoo r) (.error f):=by
 rcases h with h|⟨q,_,_,_,x,h4⟩
 ·rw[h];exact .inl rfl
 ·cases h4
theorem qlf {bs:List UInt8}{lim:Int}{r:Except (Int×Int) (Int×Nat)}{z:Int}{q:Nat}(h:qaZ bs lim r (.ok (z,q))):qaZ bs lim (qoo r) (.ok (.lit (.int .i64 z),q)):=by
 rcases h with h|⟨q',h1,h2,h3,x,h4⟩
 ·rw[h];exact .inl rfl
 ·injection h4 with h4
  injection h4 with h5 h6
  subst h6
  rw[h1]
  exact .inr ⟨q,rfl,h2,h3,_,rfl⟩
theorem qbE {k:Nat}{V:World}{F:Nat→Prop}{v:Value}{d:DataW Unit}(h:qbD 1 V F v d):qbD (k+1) V F v d:=h.more (by omega)
theorem ql3 (k:Nat)(W:World)(bs:List UInt8)(fm d l lim:Int)(i:Nat)(dp:Int)(x:Int×Int)(h1:qaz bs l i=false)(h2:qaI bs l i 9=x):Calls prog 115 #[.agg (inA bs fm d l),.int .i64 i,.int .i64 dp] W (qa5 (k+1) bs lim W (.error x)):=by
 have cH1:=qap fm d h1
 have cB1:=qcz fm d h2
 have HX:=qbk W bs fm d l
 clear h1 h2
 unfold inA
 go_enter func115,ntmps115
 go_wp2_with (first
  |(go_at_call 113;refine HX.out.ck (cH1 _) ?_;clear cH1;intro w2 HX2 c0 c1 c2 c3)
  |(go_at_call 71;refine HX2.out.ck (cB1 _) ?_;clear cB1 c0 c1 c2 c3;intro w3 HX3 c0 c1 c2 c3)
  |((with_reducible refine zT 6 23 rfl rfl (W.heap.size+1) (th0) ?_ ?_);exact⟨rfl,rfl,HX3.out.th,thg⟩)
  |((with_reducible refine zF 8 26 rfl rfl (W.heap.size+2) (x) ?_ ?_);exact⟨rfl,rfl,qan HX3.out bwR _⟩))
 have hf:=qao HX3.out bwR (th0) (x)
 refine eoT results115 hf (_) rfl rfl rfl rfl ⟨hf.2.2,?_⟩
 exact⟨.error (x),.inl rfl,_,_,_,_,_,_,_,_,_,_,rfl⟩
theorem qic (k:Nat)(W:World)(bs:List UInt8)(fm d l lim:Int)(i:Nat)(dp:Int)(c:UInt8)(hc:bs[i]? = some c)(h1:qaz bs l i=true)(_hb:bs.length≤200000000)(hn:∀x,x∈[110,102,116,34,91,123,45]→¬c.toNat=x)(h48:(c.toNat:Int)<48)(h2:qaI bs l i 9=(9,(i:Int))):Calls prog 115 #[.agg (inA bs fm d l),.int .i64 i,.int .i64 dp] W (qa5 (k+1) bs lim W (.error (9,(i:Int)))):=by
 have hix:=qah bs i c hc
 have hib:=ltL hc
 have t110:((c.toNat:Int)==110)=false:=by simp;have:=hn 110 (by simp);omega
 have t102:((c.toNat:Int)==102)=false:=by simp;have:=hn 102 (by simp);omega
 have t116:((c.toNat:Int)==116)=false:=by simp;have:=hn 116 (by simp);omega
 have t34:((c.toNat:Int)==34)=false:=by simp;have:=hn 34 (by simp);omega
 have t91:((c.toNat:Int)==91)=false:=by simp;have:=hn 91 (by simp);omega
 have t123:((c.toNat:Int)==123)=false:=by simp;have:=hn 123 (by simp);omega
 have t45:((c.toNat:Int)==45)=false:=by simp;have:=hn 45 (by simp);omega
 have hd48:decide (48≤(c.toNat:Int))=false:=by simp;omega
 have cH1:=qap fm d h1
 have cB1:=qcz fm d h2
 have HX:=qbk W bs fm d l
 clear h1 h2 hc hn
 unfold inA
 go_enter func115,ntmps115
 go_wp2_with (first
  |(go_at_call 113;refine HX.out.ck (cH1 _) ?_;clear cH1;intro w2 HX2 c0 c1 c2 c3)
  |(go_at_call 71;refine HX2.out.ck (cB1 _) ?_;clear cB1 c0 c1 c2 c3;intro w3 HX3 c0 c1 c2 c3)
  |((with_reducible refine zT 6 112 rfl rfl (W.heap.size+1) (th0) ?_ ?_);exact⟨rfl,rfl,HX3.out.th,thg⟩)
  |((with_reducible refine zF 8 115 rfl rfl (W.heap.size+2) (9,(i:Int)) ?_ ?_);exact⟨rfl,rfl,qan HX3.out bwR _⟩))
 have hf:=qao HX3.out bwR (th0) (9,(i:Int))
 refine eoT results115 hf (_) rfl rfl rfl rfl ⟨hf.2.2,?_⟩
 exact⟨.error (9,(i:Int)),.inl rfl,_,_,_,_,_,_,_,_,_,_,rfl⟩
theorem qin (k:Nat)(W:World)(bs:List UInt8)(fm d l lim:Int)(i:Nat)(dp:Int)(c:UInt8)(hc:bs[i]? = some c)(h1:qaz bs l i=true)(_hb:bs.length≤200000000)(hn:∀x,x∈[110,102,116,34,91,123,45]→¬c.toNat=x)(h57:57<(c.toNat:Int))(h2:qaI bs l i 9=(9,(i:Int))):Calls prog 115 #[.agg (inA bs fm d l),.int .i64 i,.int .i64 dp] W (qa5 (k+1) bs lim W (.error (9,(i:Int)))):=by
 have hix:=qah bs i c hc
 have hib:=ltL hc
 have t110:((c.toNat:Int)==110)=false:=by simp;have:=hn 110 (by simp);omega
 have t102:((c.toNat:Int)==102)=false:=by simp;have:=hn 102 (by simp);omega
 have t116:((c.toNat:Int)==116)=false:=by simp;have:=hn 116 (by simp);omega
 have t34:((c.toNat:Int)==34)=false:=by simp;have:=hn 34 (by simp);omega
 have t91:((c.toNat:Int)==91)=false:=by simp;have:=hn 91 (by simp);omega
 have t123:((c.toNat:Int)==123)=false:=by simp;have:=hn 123 (by simp);omega
 have t45:((c.toNat:Int)==45)=false:=by simp;have:=hn 45 (by simp);omega
 have h48:48≤(c.toNat:Int):=by omega
 have hd57:decide ((c.toNat:Int)≤57)=false:=by simp;omega
 have cH1:=qap fm d h1
 have cB1:=qcz fm d h2
 have HX:=qbk W bs fm d l
 clear h1 h2 hc hn
 unfold inA
 go_enter func115,ntmps115
 go_wp2_with (first
  |(go_at_call 113;refine HX.out.ck (cH1 _) ?_;clear cH1;intro w2 HX2 c0 c1 c2 c3)
  |(go_at_call 71;refine HX2.out.ck (cB1 _) ?_;clear cB1 c0 c1 c2 c3;intro w3 HX3 c0 c1 c2 c3)
  |((with_reducible refine zT 6 112 rfl rfl (W.heap.size+1) (th0) ?_ ?_);exact⟨rfl,rfl,HX3.out.th,thg⟩)
  |((with_reducible refine zF 8 115 rfl rfl (W.heap.size+2) (9,(i:Int)) ?_ ?_);exact⟨rfl,rfl,qan HX3.out bwR _⟩))
 have hf:=qao HX3.out bwR (th0) (9,(i:Int))
 refine eoT results115 hf (_) rfl rfl rfl rfl ⟨hf.2.2,?_⟩
 exact⟨.error (9,(i:Int)),.inl rfl,_,_,_,_,_,_,_,_,_,_,rfl⟩
theorem qkw (k:Nat)(W:World)(bs:List UInt8)(fm d l lim:Int)(i:Nat)(dp:Int)(c:UInt8)(hc:bs[i]? = some c)(h1:qaz bs l i=true)(hb:bs.length≤200000000)(hv:c.toNat=110)(hp:¬(i:Int)=lim)(hl:Lm bs l lim)(hi:InR bs lim i):Calls prog 115 #[.agg (inA bs fm d l),.int .i64 i,.int .i64 dp] W (qa5 (k+1) bs lim W (match qaw bs lim [117,108,108] (i+1) with
  |.error e=>.error e
  |.ok (_,q)=>.ok (.nil,q))):=by
 have hix:=qah bs i c hc
 have hib:=ltL hc
 have t110:((c.toNat:Int)==110)=true:=by rw[hv];rfl
 have cH1:=qap fm d h1
 have HX:=qbk W bs fm d l
 have hcc:c=110:=by apply UInt8.toNat_inj.1;rw[hv];rfl
 have hw:=qet (xs:=[117,108,108]) hc hp hcc
 have cW:∀V,Calls prog 170 #[.agg #[.string ⟨bs.toArray⟩,.int .i64 fm,.int .i64 d,.int .i64 l],.int .i64 i,.string ⟨#[110,117,108,108]⟩] V fun e W'=>e=.returned (qhH (qaw bs lim [117,108,108] (i+1)))∧Below V.heap.size V W':=fun V=>by
  have h:=qb6 V bs fm d l lim i [110,117,108,108] (by decide) hl hi hb
  rw[hw] at h
  exact h
 cases hr:qaw bs lim [117,108,108] (i+1) with
 |error f =>
  rw[hr] at cW
  have cW1:=cW
  dsimp only [inA,qhH] at cW1
  clear hr cW hw hcc hv hc h1 hl hi hp
  unfold inA
  go_enter func115,ntmps115
  go_wp2_with (first
   |(go_at_call 113;refine HX.out.ck (cH1 _) ?_;clear cH1;intro w2 HX2 c0 c1 c2 c3)
   |(go_at_call 170;refine ck (cW1 _) HX2.out.next ?_;clear cW1 c0 c1 c2 c3;intro w3 HX3)
   |((with_reducible refine zF 11 39 rfl rfl (w3.heap.size) (f) ?_ ?_);exact⟨rfl,rfl,qab w3 _⟩;refine nmd ?_;intro V4 EV4;have HX4:Hid (RTh W (inA bs fm d l) V4):=EV4▸HX3.out.next (qal _ _);have HM:Hid (V4.heap[w3.heap.size]? = some (.cells (qae (f)) 95)):=EV4▸setRow_heap _ _ _ _ _ _ (qab _ _);have HLT:Hid (W.heap.size+2<w3.heap.size):=ltA HX3.out.flt;clear EV4;generalize w3.heap.size=M at *))
  refine rgn (S:=fun Z=>Z.heap[M]? = some (.cells (qae (f)) 95)) (HM.out) (by kernel_rfl) ?_
  intro hS
  refine tk 0 40 (.agg (thA 0 0 ⟨#[]⟩ qaf qaf)) rfl (by kernel_rfl) iQ3 (fun Z hZ => ?y0) hS ?_
  case y0=>(unfold thA qaf;go_simp)
  refine tkk 1 41 (.int .i64 0) (by kernel_rfl) iQ3 hS ?_
  refine tk 2 42 (.agg (qae (f))) rfl (by kernel_rfl) iQ3 (fun Z hZ=>yF 11 hZ rfl rfl) hS ?_
  have hS3:=(setRow_other _ (W.heap.size+1) M (thA 0 0 ⟨#[]⟩ qaf qaf) (by have:=HLT.out;omega)).trans hS
  refine sTh 3 6 40 (W.heap.size+1) (thA 0 0 ⟨#[]⟩ qaf qaf) (by kernel_rfl) (HX4.out.drew.th) thg (hS3) ?_
  refine tkk 4 7 (.int .i64 0) (by kernel_rfl) iQ3 hS3 ?_
  refine sF 5 8 42 (W.heap.size+2) (f) (by kernel_rfl) (qan HX4.out.drew bwR _) (sx (by have:=HLT.out;omega) hS3) ?_
  refine wpAnyH_done (by kernel_rfl) ?_ _
  go_simp
  go_wp2
  have hf:=qao HX4.out.drew bwR (thA 0 0 ⟨#[]⟩ qaf qaf) (f)
  refine eoT results115 hf (.int .i64 0) rfl rfl rfl rfl ⟨hf.2.2,?_⟩
  exact⟨.error (f),.inl rfl,_,_,_,_,_,_,_,_,_,_,rfl⟩
 |ok r =>
  obtain⟨u,q⟩:=r
  obtain⟨hq0,hqi⟩:=qba [117,108,108] (i+1) q (qav hi hc hp) hr
  have HQI:Hid (InR bs lim q):=hqi
  rw[hr] at cW
  have cW1:=cW
  dsimp only [inA,qhH] at cW1
  clear hr cW hw hcc hv hc h1 hl hi hp hqi hq0
  unfold inA
  go_enter func115,ntmps115
  go_wp2_with (first
   |(go_at_call 113;refine HX.out.ck (cH1 _) ?_;clear cH1;intro w2 HX2 c0 c1 c2 c3)
   |(go_at_call 170;refine ck (cW1 _) HX2.out.next ?_;clear cW1 c0 c1 c2 c3;intro w3 HX3)
   |((with_reducible refine zF 11 39 rfl rfl (w3.heap.size) (0,0) ?_ ?_);exact⟨rfl,rfl,qab w3 _⟩;refine nmd ?_;intro V4 EV4;have HX4:Hid (RTh W (inA bs fm d l) V4):=EV4▸HX3.out.next (qal _ _);have HM:Hid (V4.heap[w3.heap.size]? = some (.cells (qae (0,0)) 95)):=EV4▸setRow_heap _ _ _ _ _ _ (qab _ _);have HLT:Hid (W.heap.size+2<w3.heap.size):=ltA HX3.out.flt;clear EV4;generalize w3.heap.size=M at *))
  refine rgn (S:=fun Z=>Z.heap[M]? = some (.cells (qae (0,0)) 95)) (HM.out) (by kernel_rfl) ?_
  intro hS
  refine tk 0 40 (.agg (thA 0 0 ⟨#[]⟩ qaf qaf)) rfl (by kernel_rfl) iQ3 (fun Z hZ => ?y0) hS ?_
  case y0=>(unfold thA qaf;go_simp)
  refine tkk 1 41 (.int .i64 q) (by kernel_rfl) iQ3 hS ?_
  refine tk 2 42 (.agg (qae (0,0))) rfl (by kernel_rfl) iQ3 (fun Z hZ=>yF 11 hZ rfl rfl) hS ?_
  have hS3:=(setRow_other _ (W.heap.size+1) M (thA 0 0 ⟨#[]⟩ qaf qaf) (by have:=HLT.out;omega)).trans hS
  refine sTh 3 6 40 (W.heap.size+1) (thA 0 0 ⟨#[]⟩ qaf qaf) (by kernel_rfl) (HX4.out.drew.th) thg (hS3) ?_
  refine tkk 4 7 (.int .i64 q) (by kernel_rfl) iQ3 hS3 ?_
  refine sF 5 8 42 (W.heap.size+2) (0,0) (by kernel_rfl) (qan HX4.out.drew bwR _) (sx (by have:=HLT.out;omega) hS3) ?_
  refine wpAnyH_done (by kernel_rfl) ?_ _
  go_simp
  go_wp2
  have hf:=qao HX4.out.drew bwR (thA 0 0 ⟨#[]⟩ qaf qaf) (0,0)
  refine eoT results115 hf (.int .i64 q) rfl rfl rfl rfl ⟨hf.2.2,?_⟩
  exact⟨.ok (.nil,q),.inl rfl,HQI.out,_,_,_,_,_,_,_,_,_,rfl,qbE rfl⟩
theorem qlj (k:Nat)(W:World)(bs:List UInt8)(fm d l lim:Int)(i:Nat)(dp:Int)(c:UInt8)(hc:bs[i]? = some c)(h1:qaz bs l i=true)(hb:bs.length≤200000000)(hv:c.toNat=102)(hp:¬(i:Int)=lim)(hl:Lm bs l lim)(hi:InR bs lim i):Calls prog 115 #[.agg (inA bs fm d l),.int .i64 i,.int .i64 dp] W (qa5 (k+1) bs lim W (match qaw bs lim [97,108,115,101] (i+1) with
  |.error e=>.error e
  |.ok (_,q)=>.ok (.lit (.bool false),q))):=by
 have hix:=qah bs i c hc
 have hib:=ltL hc
 have t110:=nec (c:=c) 110 (by omega)
 have t102:((c.toNat:Int)==102)=true:=by rw[hv];rfl
 have cH1:=qap fm d h1
 have HX:=qbk W bs fm d l
 have hcc:c=102:=by apply UInt8.toNat_inj.1;rw[hv];rfl
 have hw:=qet (xs:=[97,108,115,101]) hc hp hcc
 have cW:∀V,Calls prog 170 #[.agg #[.string ⟨bs.toArray⟩,.int .i64 fm,.int .i64 d,.int .i64 l],.int .i64 i,.string ⟨#[102,97,108,115,101]⟩] V fun e W'=>e=.returned (qhH (qaw bs lim [97,108,115,101] (i+1)))∧Below V.heap.size V W':=fun V=>by
  have h:=qb6 V bs fm d l lim i [102,97,108,115,101] (by decide) hl hi hb
  rw[hw] at h
  exact h
 cases hr:qaw bs lim [97,108,115,101] (i+1) with
 |error f =>
  rw[hr] at cW
  have cW1:=cW
  dsimp only [inA,qhH] at cW1
  clear hr cW hw hcc hv hc h1 hl hi hp
  unfold inA
  go_enter func115,ntmps115
  go_wp2_with (first
   |(go_at_call 113;refine HX.out.ck (cH1 _) ?_;clear cH1;intro w2 HX2 c0 c1 c2 c3)
   |(go_at_call 170;refine ck (cW1 _) HX2.out.next ?_;clear cW1 c0 c1 c2 c3;intro w3 HX3)
   |((with_reducible refine zF 13 51 rfl rfl (w3.heap.size) (f) ?_ ?_);exact⟨rfl,rfl,qab w3 _⟩;refine nmd ?_;intro V4 EV4;have HX4:Hid (RTh W (inA bs fm d l) V4):=EV4▸HX3.out.next (qal _ _);have HM:Hid (V4.heap[w3.heap.size]? = some (.cells (qae (f)) 95)):=EV4▸setRow_heap _ _ _ _ _ _ (qab _ _);have HLT:Hid (W.heap.size+2<w3.heap.size):=ltA HX3.out.flt;clear EV4;generalize w3.heap.size=M at *))
  refine rgn (S:=fun Z=>Z.heap[M]? = some (.cells (qae (f)) 95)) (HM.out) (by kernel_rfl) ?_
  intro hS
  refine tk 0 52 (.agg (thA 1 0 ⟨#[]⟩ qaf qaf)) rfl (by kernel_rfl) iQ3 (fun Z hZ => ?y0) hS ?_
  case y0=>(unfold thA qaf;go_simp)
  refine tkk 1 53 (.int .i64 0) (by kernel_rfl) iQ3 hS ?_
  refine tk 2 54 (.agg (qae (f))) rfl (by kernel_rfl) iQ3 (fun Z hZ=>yF 13 hZ rfl rfl) hS ?_
  have hS3:=(setRow_other _ (W.heap.size+1) M (thA 1 0 ⟨#[]⟩ qaf qaf) (by have:=HLT.out;omega)).trans hS
  refine sTh 3 6 52 (W.heap.size+1) (thA 1 0 ⟨#[]⟩ qaf qaf) (by kernel_rfl) (HX4.out.drew.th) thg (hS3) ?_
  refine tkk 4 7 (.int .i64 0) (by kernel_rfl) iQ3 hS3 ?_
  refine sF 5 8 54 (W.heap.size+2) (f) (by kernel_rfl) (qan HX4.out.drew bwR _) (sx (by have:=HLT.out;omega) hS3) ?_
  refine wpAnyH_done (by kernel_rfl) ?_ _
  go_simp
  go_wp2
  have hf:=qao HX4.out.drew bwR (thA 1 0 ⟨#[]⟩ qaf qaf) (f)
  refine eoT results115 hf (.int .i64 0) rfl rfl rfl rfl ⟨hf.2.2,?_⟩
  exact⟨.error (f),.inl rfl,_,_,_,_,_,_,_,_,_,_,rfl⟩
 |ok r =>
  obtain⟨u,q⟩:=r
  obtain⟨hq0,hqi⟩:=qba [97,108,115,101] (i+1) q (qav hi hc hp) hr
  have HQI:Hid (InR bs lim q):=hqi
  rw[hr] at cW
  have cW1:=cW
  dsimp only [inA,qhH] at cW1
  clear hr cW hw hcc hv hc h1 hl hi hp hqi hq0
  unfold inA
  go_enter func115,ntmps115
  go_wp2_with (first
   |(go_at_call 113;refine HX.out.ck (cH1 _) ?_;clear cH1;intro w2 HX2 c0 c1 c2 c3)
   |(go_at_call 170;refine ck (cW1 _) HX2.out.next ?_;clear cW1 c0 c1 c2 c3;intro w3 HX3)
   |((with_reducible refine zF 13 51 rfl rfl (w3.heap.size) (0,0) ?_ ?_);exact⟨rfl,rfl,qab w3 _⟩;refine nmd ?_;intro V4 EV4;have HX4:Hid (RTh W (inA bs fm d l) V4):=EV4▸HX3.out.next (qal _ _);have HM:Hid (V4.heap[w3.heap.size]? = some (.cells (qae (0,0)) 95)):=EV4▸setRow_heap _ _ _ _ _ _ (qab _ _);have HLT:Hid (W.heap.size+2<w3.heap.size):=ltA HX3.out.flt;clear EV4;generalize w3.heap.size=M at *))
  refine rgn (S:=fun Z=>Z.heap[M]? = some (.cells (qae (0,0)) 95)) (HM.out) (by kernel_rfl) ?_
  intro hS
  refine tk 0 52 (.agg (thA 1 0 ⟨#[]⟩ qaf qaf)) rfl (by kernel_rfl) iQ3 (fun Z hZ => ?y0) hS ?_
  case y0=>(unfold thA qaf;go_simp)
  refine tkk 1 53 (.int .i64 q) (by kernel_rfl) iQ3 hS ?_
  refine tk 2 54 (.agg (qae (0,0))) rfl (by kernel_rfl) iQ3 (fun Z hZ=>yF 13 hZ rfl rfl) hS ?_
  have hS3:=(setRow_other _ (W.heap.size+1) M (thA 1 0 ⟨#[]⟩ qaf qaf) (by have:=HLT.out;omega)).trans hS
  refine sTh 3 6 52 (W.heap.size+1) (thA 1 0 ⟨#[]⟩ qaf qaf) (by kernel_rfl) (HX4.out.drew.th) thg (hS3) ?_
  refine tkk 4 7 (.int .i64 q) (by kernel_rfl) iQ3 hS3 ?_
  refine sF 5 8 54 (W.heap.size+2) (0,0) (by kernel_rfl) (qan HX4.out.drew bwR _) (sx (by have:=HLT.out;omega) hS3) ?_
  refine wpAnyH_done (by kernel_rfl) ?_ _
  go_simp
  go_wp2
  have hf:=qao HX4.out.drew bwR (thA 1 0 ⟨#[]⟩ qaf qaf) (0,0)
  refine eoT results115 hf (.int .i64 q) rfl rfl rfl rfl ⟨hf.2.2,?_⟩
  exact⟨.ok (.lit (.bool false),q),.inl rfl,HQI.out,_,_,_,_,_,_,_,_,_,rfl,qbE rfl⟩
theorem qk9 (k:Nat)(W:World)(bs:List UInt8)(fm d l lim:Int)(i:Nat)(dp:Int)(c:UInt8)(hc:bs[i]? = some c)(h1:qaz bs l i=true)(hb:bs.length≤200000000)(hv:c.toNat=116)(hp:¬(i:Int)=lim)(hl:Lm bs l lim)(hi:InR bs lim i):Calls prog 115 #[.agg (inA bs fm d l),.int .i64 i,.int .i64 dp] W (qa5 (k+1) bs lim W (match qaw bs lim [114,117,101] (i+1) with
  |.error e=>.error e
  |.ok (_,q)=>.ok (.lit (.bool true),q))):=by
 have hix:=qah bs i c hc
 have hib:=ltL hc
 have t110:=nec (c:=c) 110 (by omega)
 have t102:=nec (c:=c) 102 (by omega)
 have t116:((c.toNat:Int)==116)=true:=by rw[hv];rfl
 have cH1:=qap fm d h1
 have HX:=qbk W bs fm d l
 have hcc:c=116:=by apply UInt8.toNat_inj.1;rw[hv];rfl
 have hw:=qet (xs:=[114,117,101]) hc hp hcc
 have cW:∀V,Calls prog 170 #[.agg #[.string ⟨bs.toArray⟩,.int .i64 fm,.int .i64 d,.int .i64 l],.int .i64 i,.string ⟨#[116,114,117,101]⟩] V fun e W'=>e=.returned (qhH (qaw bs lim [114,117,101] (i+1)))∧Below V.heap.size V W':=fun V=>by
  have h:=qb6 V bs fm d l lim i [116,114,117,101] (by decide) hl hi hb
  rw[hw] at h
  exact h
 cases hr:qaw bs lim [114,117,101] (i+1) with
 |error f =>
  rw[hr] at cW
  have cW1:=cW
  dsimp only [inA,qhH] at cW1
  clear hr cW hw hcc hv hc h1 hl hi hp
  unfold inA
  go_enter func115,ntmps115
  go_wp2_with (first
   |(go_at_call 113;refine HX.out.ck (cH1 _) ?_;clear cH1;intro w2 HX2 c0 c1 c2 c3)
   |(go_at_call 170;refine ck (cW1 _) HX2.out.next ?_;clear cW1 c0 c1 c2 c3;intro w3 HX3)
   |((with_reducible refine zF 15 63 rfl rfl (w3.heap.size) (f) ?_ ?_);exact⟨rfl,rfl,qab w3 _⟩;refine nmd ?_;intro V4 EV4;have HX4:Hid (RTh W (inA bs fm d l) V4):=EV4▸HX3.out.next (qal _ _);have HM:Hid (V4.heap[w3.heap.size]? = some (.cells (qae (f)) 95)):=EV4▸setRow_heap _ _ _ _ _ _ (qab _ _);have HLT:Hid (W.heap.size+2<w3.heap.size):=ltA HX3.out.flt;clear EV4;generalize w3.heap.size=M at *))
  refine rgn (S:=fun Z=>Z.heap[M]? = some (.cells (qae (f)) 95)) (HM.out) (by kernel_rfl) ?_
  intro hS
  refine tk 0 64 (.agg (thA 2 0 ⟨#[]⟩ qaf qaf)) rfl (by kernel_rfl) iQ3 (fun Z hZ => ?y0) hS ?_
  case y0=>(unfold thA qaf;go_simp)
  refine tkk 1 65 (.int .i64 0) (by kernel_rfl) iQ3 hS ?_
  refine tk 2 66 (.agg (qae (f))) rfl (by kernel_rfl) iQ3 (fun Z hZ=>yF 15 hZ rfl rfl) hS ?_
  have hS3:=(setRow_other _ (W.heap.size+1) M (thA 2 0 ⟨#[]⟩ qaf qaf) (by have:=HLT.out;omega)).trans hS
  refine sTh 3 6 64 (W.heap.size+1) (thA 2 0 ⟨#[]⟩ qaf qaf) (by kernel_rfl) (HX4.out.drew.th) thg (hS3) ?_
  refine tkk 4 7 (.int .i64 0) (by kernel_rfl) iQ3 hS3 ?_
  refine sF 5 8 66 (W.heap.size+2) (f) (by kernel_rfl) (qan HX4.out.drew bwR _) (sx (by have:=HLT.out;omega) hS3) ?_
  refine wpAnyH_done (by kernel_rfl) ?_ _
  go_simp
  go_wp2
  have hf:=qao HX4.out.drew bwR (thA 2 0 ⟨#[]⟩ qaf qaf) (f)
  refine eoT results115 hf (.int .i64 0) rfl rfl rfl rfl ⟨hf.2.2,?_⟩
  exact⟨.error (f),.inl rfl,_,_,_,_,_,_,_,_,_,_,rfl⟩
 |ok r =>
  obtain⟨u,q⟩:=r
  obtain⟨hq0,hqi⟩:=qba [114,117,101] (i+1) q (qav hi hc hp) hr
  have HQI:Hid (InR bs lim q):=hqi
  rw[hr] at cW
  have cW1:=cW
  dsimp only [inA,qhH] at cW1
  clear hr cW hw hcc hv hc h1 hl hi hp hqi hq0
  unfold inA
  go_enter func115,ntmps115
  go_wp2_with (first
   |(go_at_call 113;refine HX.out.ck (cH1 _) ?_;clear cH1;intro w2 HX2 c0 c1 c2 c3)
   |(go_at_call 170;refine ck (cW1 _) HX2.out.next ?_;clear cW1 c0 c1 c2 c3;intro w3 HX3)
   |((with_reducible refine zF 15 63 rfl rfl (w3.heap.size) (0,0) ?_ ?_);exact⟨rfl,rfl,qab w3 _⟩;refine nmd ?_;intro V4 EV4;have HX4:Hid (RTh W (inA bs fm d l) V4):=EV4▸HX3.out.next (qal _ _);have HM:Hid (V4.heap[w3.heap.size]? = some (.cells (qae (0,0)) 95)):=EV4▸setRow_heap _ _ _ _ _ _ (qab _ _);have HLT:Hid (W.heap.size+2<w3.heap.size):=ltA HX3.out.flt;clear EV4;generalize w3.heap.size=M at *))
  refine rgn (S:=fun Z=>Z.heap[M]? = some (.cells (qae (0,0)) 95)) (HM.out) (by kernel_rfl) ?_
  intro hS
  refine tk 0 64 (.agg (thA 2 0 ⟨#[]⟩ qaf qaf)) rfl (by kernel_rfl) iQ3 (fun Z hZ => ?y0) hS ?_
  case y0=>(unfold thA qaf;go_simp)
  refine tkk 1 65 (.int .i64 q) (by kernel_rfl) iQ3 hS ?_
  refine tk 2 66 (.agg (qae (0,0))) rfl (by kernel_rfl) iQ3 (fun Z hZ=>yF 15 hZ rfl rfl) hS ?_
  have hS3:=(setRow_other _ (W.heap.size+1) M (thA 2 0 ⟨#[]⟩ qaf qaf) (by have:=HLT.out;omega)).trans hS
  refine sTh 3 6 64 (W.heap.size+1) (thA 2 0 ⟨#[]⟩ qaf qaf) (by kernel_rfl) (HX4.out.drew.th) thg (hS3) ?_
  refine tkk 4 7 (.int .i64 q) (by kernel_rfl) iQ3 hS3 ?_
  refine sF 5 8 66 (W.heap.size+2) (0,0) (by kernel_rfl) (qan HX4.out.drew bwR _) (sx (by have:=HLT.out;omega) hS3) ?_
  refine wpAnyH_done (by kernel_rfl) ?_ _
  go_simp
  go_wp2
  have hf:=qao HX4.out.drew bwR (thA 2 0 ⟨#[]⟩ qaf qaf) (0,0)
  refine eoT results115 hf (.int .i64 q) rfl rfl rfl rfl ⟨hf.2.2,?_⟩
  exact⟨.ok (.lit (.bool true),q),.inl rfl,HQI.out,_,_,_,_,_,_,_,_,_,rfl,qbE rfl⟩
theorem qmC (k:Nat)(W:World)(bs:List UInt8)(fm d l lim:Int)(i:Nat)(dp:Int)(c:UInt8)(hc:bs[i]? = some c)(h1:qaz bs l i=true)(hb:bs.length≤200000000)(hv:c.toNat=34)(hp:¬(i:Int)=lim)(hl:Lm bs l lim)(hi:InR bs lim i):Calls prog 115 #[.agg (inA bs fm d l),.int .i64 i,.int .i64 dp] W (qa5 (k+1) bs lim W (match qbu bs lim (bs.length+1-(i+1)) (i+1) [] 0 with
  |.error e=>.error e
  |.ok (x,q)=>.ok (.lit (.string x),q))):=by
 have hix:=qah bs i c hc
 have hib:=ltL hc
 have t110:=nec (c:=c) 110 (by omega)
 have t102:=nec (c:=c) 102 (by omega)
 have t116:=nec (c:=c) 116 (by omega)
 have t34:((c.toNat:Int)==34)=true:=by rw[hv];rfl
 have cH1:=qap fm d h1
 have HX:=qbk W bs fm d l
 have cQ:=fun V=>qce V bs fm d l lim i hl (qav hi hc hp) hb
 unfold inA at cQ
 have hpos:=fun x q=>qdT (bs:=bs) (lim:=lim) (bs.length+1-(i+1)) (i+1) [] 0 x q (qav hi hc hp)
 cases hr:qbu bs lim (bs.length+1-(i+1)) (i+1) [] 0 with
 |error f =>
  rw[hr] at cQ
  have cW1:=cQ
  dsimp only [inA,qlZ] at cW1
  clear hr cQ hv hc h1 hl hi hp hpos
  unfold inA
  go_enter func115,ntmps115
  go_wp2_with (first
   |(go_at_call 113;refine HX.out.ck (cH1 _) ?_;clear cH1;intro w2 HX2 c0 c1 c2 c3)
   |(go_at_call 171;refine ck (cW1 _) HX2.out.next ?_;clear cW1 c0 c1 c2 c3;intro w3 HX3)
   |((with_reducible refine zF 18 76 rfl rfl (w3.heap.size) (f) ?_ ?_);exact⟨rfl,rfl,qab w3 _⟩;refine nmd ?_;intro V4 EV4;have HX4:Hid (RTh W (inA bs fm d l) V4):=EV4▸HX3.out.next (qal _ _);have HM:Hid (V4.heap[w3.heap.size]? = some (.cells (qae (f)) 95)):=EV4▸setRow_heap _ _ _ _ _ _ (qab _ _);have HLT:Hid (W.heap.size+2<w3.heap.size):=ltA HX3.out.flt;clear EV4;generalize w3.heap.size=M at *))
  refine rgn (S:=fun Z=>Z.heap[M]? = some (.cells (qae (f)) 95)) (HM.out) (by kernel_rfl) ?_
  intro hS
  refine tkk 0 77 (.string ⟨#[]⟩) (by kernel_rfl) iQ3 hS ?_
  refine tk 1 78 (.agg (thA 4 0 ⟨#[]⟩ qaf qaf)) rfl (by kernel_rfl) iQ3 (fun Z hZ => ?y1) hS ?_
  case y1=>(unfold thA qaf;go_simp)
  refine tkk 2 79 (.int .i64 0) (by kernel_rfl) iQ3 hS ?_
  refine tk 3 80 (.agg (qae (f))) rfl (by kernel_rfl) iQ3 (fun Z hZ=>yF 18 hZ rfl rfl) hS ?_
  have hS3:=(setRow_other _ (W.heap.size+1) M (thA 4 0 ⟨#[]⟩ qaf qaf) (by have:=HLT.out;omega)).trans hS
  refine sTh 4 6 78 (W.heap.size+1) (thA 4 0 ⟨#[]⟩ qaf qaf) (by kernel_rfl) (HX4.out.drew.th) thg (hS3) ?_
  refine tkk 5 7 (.int .i64 0) (by kernel_rfl) iQ3 hS3 ?_
  refine sF 6 8 80 (W.heap.size+2) (f) (by kernel_rfl) (qan HX4.out.drew bwR _) (sx (by have:=HLT.out;omega) hS3) ?_
  refine wpAnyH_done (by kernel_rfl) ?_ _
  go_simp
  go_wp2
  have hf:=qao HX4.out.drew bwR (thA 4 0 ⟨#[]⟩ qaf qaf) (f)
  refine eoT results115 hf (.int .i64 0) rfl rfl rfl rfl ⟨hf.2.2,?_⟩
  exact⟨.error (f),.inl rfl,_,_,_,_,_,_,_,_,_,_,rfl⟩
 |ok r =>
  obtain⟨x,q⟩:=r
  have HQI:Hid (InR bs lim q):=hpos x q hr
  rw[hr] at cQ
  have cW1:=cQ
  dsimp only [inA,qlZ] at cW1
  clear hr cQ hv hc h1 hl hi hp hpos
  unfold inA
  go_enter func115,ntmps115
  go_wp2_with (first
   |(go_at_call 113;refine HX.out.ck (cH1 _) ?_;clear cH1;intro w2 HX2 c0 c1 c2 c3)
   |(go_at_call 171;refine ck (cW1 _) HX2.out.next ?_;clear cW1 c0 c1 c2 c3;intro w3 HX3)
   |((with_reducible refine zF 18 76 rfl rfl (w3.heap.size) (0,0) ?_ ?_);exact⟨rfl,rfl,qab w3 _⟩;refine nmd ?_;intro V4 EV4;have HX4:Hid (RTh W (inA bs fm d l) V4):=EV4▸HX3.out.next (qal _ _);have HM:Hid (V4.heap[w3.heap.size]? = some (.cells (qae (0,0)) 95)):=EV4▸setRow_heap _ _ _ _ _ _ (qab _ _);have HLT:Hid (W.heap.size+2<w3.heap.size):=ltA HX3.out.flt;clear EV4;generalize w3.heap.size=M at *))
  refine rgn (S:=fun Z=>Z.heap[M]? = some (.cells (qae (0,0)) 95)) (HM.out) (by kernel_rfl) ?_
  intro hS
  refine tkk 0 77 (.string ⟨x.toArray⟩) (by kernel_rfl) iQ3 hS ?_
  refine tk 1 78 (.agg (thA 4 0 ⟨x.toArray⟩ qaf qaf)) rfl (by kernel_rfl) iQ3 (fun Z hZ => ?y1) hS ?_
  case y1=>(unfold thA qaf;go_simp)
  refine tkk 2 79 (.int .i64 q) (by kernel_rfl) iQ3 hS ?_
  refine tk 3 80 (.agg (qae (0,0))) rfl (by kernel_rfl) iQ3 (fun Z hZ=>yF 18 hZ rfl rfl) hS ?_
  have hS3:=(setRow_other _ (W.heap.size+1) M (thA 4 0 ⟨x.toArray⟩ qaf qaf) (by have:=HLT.out;omega)).trans hS
  refine sTh 4 6 78 (W.heap.size+1) (thA 4 0 ⟨x.toArray⟩ qaf qaf) (by kernel_rfl) (HX4.out.drew.th) thg (hS3) ?_
  refine tkk 5 7 (.int .i64 q) (by kernel_rfl) iQ3 hS3 ?_
  refine sF 6 8 80 (W.heap.size+2) (0,0) (by kernel_rfl) (qan HX4.out.drew bwR _) (sx (by have:=HLT.out;omega) hS3) ?_
  refine wpAnyH_done (by kernel_rfl) ?_ _
  go_simp
  go_wp2
  have hf:=qao HX4.out.drew bwR (thA 4 0 ⟨x.toArray⟩ qaf qaf) (0,0)
  refine eoT results115 hf (.int .i64 q) rfl rfl rfl rfl ⟨hf.2.2,?_⟩
  exact⟨.ok (.lit (.string x),q),.inl rfl,HQI.out,_,_,_,_,_,_,_,_,_,rfl,qbE rfl⟩
theorem qmu (k:Nat)(W:World)(bs:List UInt8)(fm d l lim:Int)(i:Nat)(dp:Int)(c:UInt8)(hc:bs[i]? = some c)(h1:qaz bs l i=true)(_hb:bs.length≤200000000)(hv:c.toNat=91)(r:Except (Int×Int) (DataW Unit×Nat))(cC:∀V,Below W.heap.size W V→Calls prog 172 #[.agg (inA bs fm d l),.int .i64 i,.int .i64 dp] V (qa5 (k+1) bs lim V r)):Calls prog 115 #[.agg (inA bs fm d l),.int .i64 i,.int .i64 dp] W (qa5 (k+1) bs lim W (r)):=by
 have hix:=qah bs i c hc
 have hib:=ltL hc
 have t110:=nec (c:=c) 110 (by omega)
 have t102:=nec (c:=c) 102 (by omega)
 have t116:=nec (c:=c) 116 (by omega)
 have t34:=nec (c:=c) 34 (by omega)
 have t91:((c.toNat:Int)==91)=true:=by rw[hv];rfl
 have cH1:=qap fm d h1
 have HX:=qbk W bs fm d l
 have HCC:Hid (∀V,Below W.heap.size W V→Calls prog 172 #[.agg #[.string ⟨bs.toArray⟩,.int .i64 fm,.int .i64 d,.int .i64 l],.int .i64 i,.int .i64 dp] V (qa5 (k+1) bs lim V r)):=cC
 clear hv hc h1 cC
 unfold inA
 go_enter func115,ntmps115
 go_wp2_with (first
  |(go_at_call 113;refine ckB (cH1 _) HX.out.next ?_;clear cH1;intro w2 hB2 HX2;obtain⟨c0,c1,c2,c3⟩:=qa3 HX2.out.box))
 refine(HCC.out _ HX2.out.below).mono ?_
 clear c0 c1 c2 c3
 rintro e w3 ⟨hB3,r',hlo,he⟩
 have HX3:=qac (HX2.out.next hB3)
 have HLO:Hid (qaZ bs lim r r'):=hlo
 have hlt2:=ltA HX2.out.flt
 clear hlo HCC hB2
 cases r' with
 |error f =>
  obtain⟨kd,n,s,a,i1,j1,b,p,m,z,rfl⟩:=he
  simp only[]
  go_wp2_with (first
   |((with_reducible refine zT 6 92 rfl rfl (W.heap.size+1) (thA kd n s (.slice a i1 j1) (.slice b p m)) ?_ ?_);exact⟨rfl,rfl,HX3.out.th,thg⟩)
   |((with_reducible refine zF 8 94 rfl rfl (W.heap.size+2) (f) ?_ ?_);exact⟨rfl,rfl,qan HX3.out bwR _⟩))
  have hf:=qao HX3.out bwR (thA kd n s (.slice a i1 j1) (.slice b p m)) (f)
  refine eoT results115 hf (.int .i64 z) rfl rfl rfl rfl ⟨hf.2.2,?_⟩
  exact⟨.error f,HLO.out,_,_,_,_,_,_,_,_,_,_,rfl⟩
 |ok x =>
  obtain⟨dd,q⟩:=x
  obtain⟨hqi,kd,n,s,a,i1,j1,b,p,m,rfl,hA⟩:=he
  have HQI:Hid (InR bs lim q):=hqi
  have HA:Hid (qbD (k+1) w3 (fun j=>w2.heap.size≤j∧j<w3.heap.size) (.agg (thA kd n s (.slice a i1 j1) (.slice b p m))) dd):=hA
  clear hqi hA
  simp only[]
  go_wp2_with (first
   |((with_reducible refine zT 6 92 rfl rfl (W.heap.size+1) (thA kd n s (.slice a i1 j1) (.slice b p m)) ?_ ?_);exact⟨rfl,rfl,HX3.out.th,thg⟩)
   |((with_reducible refine zF 8 94 rfl rfl (W.heap.size+2) (0,0) ?_ ?_);exact⟨rfl,rfl,qan HX3.out bwR _⟩))
  have hf:=qao HX3.out bwR (thA kd n s (.slice a i1 j1) (.slice b p m)) (0,0)
  refine eoT results115 hf (.int .i64 q) rfl rfl rfl rfl ⟨hf.2.2,?_⟩
  exact⟨.ok (dd,q),HLO.out,HQI.out,_,_,_,_,_,_,_,_,_,rfl,qiN HA.out HX2.out.below.size hlt2⟩
theorem qlo (k:Nat)(W:World)(bs:List UInt8)(fm d l lim:Int)(i:Nat)(dp:Int)(c:UInt8)(hc:bs[i]? = some c)(h1:qaz bs l i=true)(_hb:bs.length≤200000000)(hv:c.toNat=123)(r:Except (Int×Int) (DataW Unit×Nat))(cC:∀V,Below W.heap.size W V→Calls prog 172 #[.agg (inA bs fm d l),.int .i64 i,.int .i64 dp] V (qa5 (k+1) bs lim V r)):Calls prog 115 #[.agg (inA bs fm d l),.int .i64 i,.int .i64 dp] W (qa5 (k+1) bs lim W (r)):=by
 have hix:=qah bs i c hc
 have hib:=ltL hc
 have t110:=nec (c:=c) 110 (by omega)
 have t102:=nec (c:=c) 102 (by omega)
 have t116:=nec (c:=c) 116 (by omega)
 have t34:=nec (c:=c) 34 (by omega)
 have t91:=nec (c:=c) 91 (by omega)
 have t123:((c.toNat:Int)==123)=true:=by rw[hv];rfl
 have cH1:=qap fm d h1
 have HX:=qbk W bs fm d l
 have HCC:Hid (∀V,Below W.heap.size W V→Calls prog 172 #[.agg #[.string ⟨bs.toArray⟩,.int .i64 fm,.int .i64 d,.int .i64 l],.int .i64 i,.int .i64 dp] V (qa5 (k+1) bs lim V r)):=cC
 clear hv hc h1 cC
 unfold inA
 go_enter func115,ntmps115
 go_wp2_with (first
  |(go_at_call 113;refine ckB (cH1 _) HX.out.next ?_;clear cH1;intro w2 hB2 HX2;obtain⟨c0,c1,c2,c3⟩:=qa3 HX2.out.box))
 refine(HCC.out _ HX2.out.below).mono ?_
 clear c0 c1 c2 c3
 rintro e w3 ⟨hB3,r',hlo,he⟩
 have HX3:=qac (HX2.out.next hB3)
 have HLO:Hid (qaZ bs lim r r'):=hlo
 have hlt2:=ltA HX2.out.flt
 clear hlo HCC hB2
 cases r' with
 |error f =>
  obtain⟨kd,n,s,a,i1,j1,b,p,m,z,rfl⟩:=he
  simp only[]
  go_wp2_with (first
   |((with_reducible refine zT 6 92 rfl rfl (W.heap.size+1) (thA kd n s (.slice a i1 j1) (.slice b p m)) ?_ ?_);exact⟨rfl,rfl,HX3.out.th,thg⟩)
   |((with_reducible refine zF 8 94 rfl rfl (W.heap.size+2) (f) ?_ ?_);exact⟨rfl,rfl,qan HX3.out bwR _⟩))
  have hf:=qao HX3.out bwR (thA kd n s (.slice a i1 j1) (.slice b p m)) (f)
  refine eoT results115 hf (.int .i64 z) rfl rfl rfl rfl ⟨hf.2.2,?_⟩
  exact⟨.error f,HLO.out,_,_,_,_,_,_,_,_,_,_,rfl⟩
 |ok x =>
  obtain⟨dd,q⟩:=x
  obtain⟨hqi,kd,n,s,a,i1,j1,b,p,m,rfl,hA⟩:=he
  have HQI:Hid (InR bs lim q):=hqi
  have HA:Hid (qbD (k+1) w3 (fun j=>w2.heap.size≤j∧j<w3.heap.size) (.agg (thA kd n s (.slice a i1 j1) (.slice b p m))) dd):=hA
  clear hqi hA
  simp only[]
  go_wp2_with (first
   |((with_reducible refine zT 6 92 rfl rfl (W.heap.size+1) (thA kd n s (.slice a i1 j1) (.slice b p m)) ?_ ?_);exact⟨rfl,rfl,HX3.out.th,thg⟩)
   |((with_reducible refine zF 8 94 rfl rfl (W.heap.size+2) (0,0) ?_ ?_);exact⟨rfl,rfl,qan HX3.out bwR _⟩))
  have hf:=qao HX3.out bwR (thA kd n s (.slice a i1 j1) (.slice b p m)) (0,0)
  refine eoT results115 hf (.int .i64 q) rfl rfl rfl rfl ⟨hf.2.2,?_⟩
  exact⟨.ok (dd,q),HLO.out,HQI.out,_,_,_,_,_,_,_,_,_,rfl,qiN HA.out HX2.out.below.size hlt2⟩
theorem qmE (k:Nat)(W:World)(bs:List UInt8)(fm d l lim:Int)(i:Nat)(dp:Int)(c:UInt8)(hc:bs[i]? = some c)(h1:qaz bs l i=true)(_hb:bs.length≤200000000)(hv:c.toNat=45)(r:Except (Int×Int) (Int×Nat))(cN:∀V,Calls prog 173 #[.agg (inA bs fm d l),.int .i64 i] V fun e W'=>(∃r',qaZ bs lim r r'∧(∀z q,r'=.ok (z,q)→InR bs lim q ∧ -9223372036854775808≤z∧z≤9223372036854775807)∧qnI r' e)∧Below V.heap.size V W'):Calls prog 115 #[.agg (inA bs fm d l),.int .i64 i,.int .i64 dp] W (qa5 (k+1) bs lim W (qoo r)):=by
 have hix:=qah bs i c hc
 have hib:=ltL hc
 have t110:=nec (c:=c) 110 (by omega)
 have t102:=nec (c:=c) 102 (by omega)
 have t116:=nec (c:=c) 116 (by omega)
 have t34:=nec (c:=c) 34 (by omega)
 have t91:=nec (c:=c) 91 (by omega)
 have t123:=nec (c:=c) 123 (by omega)
 have t45:((c.toNat:Int)==45)=true:=by rw[hv];rfl
 have cH1:=qap fm d h1
 have HX:=qbk W bs fm d l
 have HCN:Hid (∀V,Calls prog 173 #[.agg #[.string ⟨bs.toArray⟩,.int .i64 fm,.int .i64 d,.int .i64 l],.int .i64 i] V fun e W'=>(∃r',qaZ bs lim r r'∧(∀z q,r'=.ok (z,q)→InR bs lim q ∧ -9223372036854775808≤z∧z≤9223372036854775807)∧qnI r' e)∧Below V.heap.size V W'):=cN
 clear cN h1 hc
 clear hv
 unfold inA
 go_enter func115,ntmps115
 go_wp2_with (first
  |(go_at_call 113;refine ckB (cH1 _) HX.out.next ?_;clear cH1;intro w2 hB2 HX2;obtain⟨c0,c1,c2,c3⟩:=qa3 HX2.out.box))
 refine(HCN.out _).mono ?_
 clear c0 c1 c2 c3
 rintro e w3 ⟨⟨r',hlo,hrb,he⟩,hB3⟩
 have HX3:=qac (HX2.out.next hB3)
 have HLO:Hid (qaZ bs lim r r'):=hlo
 have HRB:Hid (∀z q,r'=.ok (z,q)→InR bs lim q ∧ -9223372036854775808≤z∧z≤9223372036854775807):=hrb
 clear hlo hrb HCN hB2
 cases r' with
 |error f =>
  obtain rfl:=he
  simp only[]
  go_wp2_with (first
   |((with_reducible refine zT 6 109 rfl rfl (W.heap.size+1) (th0) ?_ ?_);exact⟨rfl,rfl,HX3.out.th,thg⟩)
   |((with_reducible refine zF 8 111 rfl rfl (W.heap.size+2) (f) ?_ ?_);exact⟨rfl,rfl,qan HX3.out bwR _⟩))
  have hf:=qao HX3.out bwR (th0) (f)
  refine eoT results115 hf (.int .i64 0) rfl rfl rfl rfl ⟨hf.2.2,?_⟩
  exact⟨.error f,qjh HLO.out,_,_,_,_,_,_,_,_,_,_,rfl⟩
 |ok x =>
  obtain⟨z,q⟩:=x
  obtain rfl:=he
  simp only[]
  go_wp2_with (first
   |((with_reducible refine zT 6 109 rfl rfl (W.heap.size+1) (thA 3 z ⟨#[]⟩ qaf qaf) ?_ ?_);exact⟨rfl,rfl,HX3.out.th,thg⟩)
   |((with_reducible refine zF 8 111 rfl rfl (W.heap.size+2) (0,0) ?_ ?_);exact⟨rfl,rfl,qan HX3.out bwR _⟩))
  have hf:=qao HX3.out bwR (thA 3 z ⟨#[]⟩ qaf qaf) (0,0)
  refine eoT results115 hf (.int .i64 q) rfl rfl rfl rfl ⟨hf.2.2,?_⟩
  exact⟨.ok (.lit (.int .i64 z),q),qlf HLO.out,(HRB.out z q rfl).1,_,_,_,_,_,_,_,_,_,rfl,qbE ⟨rfl,(HRB.out z q rfl).2⟩⟩
theorem qlN (k:Nat)(W:World)(bs:List UInt8)(fm d l lim:Int)(i:Nat)(dp:Int)(c:UInt8)(hc:bs[i]? = some c)(h1:qaz bs l i=true)(_hb:bs.length≤200000000)(hn:∀x,x∈[110,102,116,34,91,123,45]→¬c.toNat=x)(h48:48≤(c.toNat:Int))(h57:(c.toNat:Int)≤57)(r:Except (Int×Int) (Int×Nat))(cN:∀V,Calls prog 173 #[.agg (inA bs fm d l),.int .i64 i] V fun e W'=>(∃r',qaZ bs lim r r'∧(∀z q,r'=.ok (z,q)→InR bs lim q ∧ -9223372036854775808≤z∧z≤9223372036854775807)∧qnI r' e)∧Below V.heap.size V W'):Calls prog 115 #[.agg (inA bs fm d l),.int .i64 i,.int .i64 dp] W (qa5 (k+1) bs lim W (qoo r)):=by
 have hix:=qah bs i c hc
 have hib:=ltL hc
 have t110:((c.toNat:Int)==110)=false:=by simp;have:=hn 110 (by simp);omega
 have t102:((c.toNat:Int)==102)=false:=by simp;have:=hn 102 (by simp);omega
 have t116:((c.toNat:Int)==116)=false:=by simp;have:=hn 116 (by simp);omega
 have t34:((c.toNat:Int)==34)=false:=by simp;have:=hn 34 (by simp);omega
 have t91:((c.toNat:Int)==91)=false:=by simp;have:=hn 91 (by simp);omega
 have t123:((c.toNat:Int)==123)=false:=by simp;have:=hn 123 (by simp);omega
 have t45:((c.toNat:Int)==45)=false:=by simp;have:=hn 45 (by simp);omega
 have cH1:=qap fm d h1
 have HX:=qbk W bs fm d l
 have HCN:Hid (∀V,Calls prog 173 #[.agg #[.string ⟨bs.toArray⟩,.int .i64 fm,.int .i64 d,.int .i64 l],.int .i64 i] V fun e W'=>(∃r',qaZ bs lim r r'∧(∀z q,r'=.ok (z,q)→InR bs lim q ∧ -9223372036854775808≤z∧z≤9223372036854775807)∧qnI r' e)∧Below V.heap.size V W'):=cN
 clear cN h1 hc
 clear hn
 unfold inA
 go_enter func115,ntmps115
 go_wp2_with (first
  |(go_at_call 113;refine ckB (cH1 _) HX.out.next ?_;clear cH1;intro w2 hB2 HX2;obtain⟨c0,c1,c2,c3⟩:=qa3 HX2.out.box))
 refine(HCN.out _).mono ?_
 clear c0 c1 c2 c3
 rintro e w3 ⟨⟨r',hlo,hrb,he⟩,hB3⟩
 have HX3:=qac (HX2.out.next hB3)
 have HLO:Hid (qaZ bs lim r r'):=hlo
 have HRB:Hid (∀z q,r'=.ok (z,q)→InR bs lim q ∧ -9223372036854775808≤z∧z≤9223372036854775807):=hrb
 clear hlo hrb HCN hB2
 cases r' with
 |error f =>
  obtain rfl:=he
  simp only[]
  go_wp2_with (first
   |((with_reducible refine zT 6 109 rfl rfl (W.heap.size+1) (th0) ?_ ?_);exact⟨rfl,rfl,HX3.out.th,thg⟩)
   |((with_reducible refine zF 8 111 rfl rfl (W.heap.size+2) (f) ?_ ?_);exact⟨rfl,rfl,qan HX3.out bwR _⟩))
  have hf:=qao HX3.out bwR (th0) (f)
  refine eoT results115 hf (.int .i64 0) rfl rfl rfl rfl ⟨hf.2.2,?_⟩
  exact⟨.error f,qjh HLO.out,_,_,_,_,_,_,_,_,_,_,rfl⟩
 |ok x =>
  obtain⟨z,q⟩:=x
  obtain rfl:=he
  simp only[]
  go_wp2_with (first
   |((with_reducible refine zT 6 109 rfl rfl (W.heap.size+1) (thA 3 z ⟨#[]⟩ qaf qaf) ?_ ?_);exact⟨rfl,rfl,HX3.out.th,thg⟩)
   |((with_reducible refine zF 8 111 rfl rfl (W.heap.size+2) (0,0) ?_ ?_);exact⟨rfl,rfl,qan HX3.out bwR _⟩))
  have hf:=qao HX3.out bwR (thA 3 z ⟨#[]⟩ qaf qaf) (0,0)
  refine eoT results115 hf (.int .i64 q) rfl rfl rfl rfl ⟨hf.2.2,?_⟩
  exact⟨.ok (.lit (.int .i64 z),q),qlf HLO.out,(HRB.out z q rfl).1,_,_,_,_,_,_,_,_,_,rfl,qbE ⟨rfl,(HRB.out z q rfl).2⟩⟩
end
end Go.Proofs.YtllcbnfmihfaaaaGreatDoor
