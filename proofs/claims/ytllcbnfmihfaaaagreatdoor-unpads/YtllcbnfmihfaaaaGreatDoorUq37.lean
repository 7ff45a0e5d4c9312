import Derived.Test.YtllcbnfmihfaaaaGreatDoorUq35
import Derived.Test.YtllcbnfmihfaaaaGreatDoorUq34
import Derived.Test.YtllcbnfmihfaaaaGreatDoorUq36
set_option maxRecDepth 100000
set_option maxHeartbeats 8000000
namespace Go.Proofs.YtllcbnfmihfaaaaGreatDoor
open Go.Proofs.Tryz
section
open Go.RowKit Go.Lib
theorem qnw:(List.range 256).all (fun c=>decide ((c / 32=7→(c%32<20∨22<c%32)→(qcs c).1=0)∧(c / 32=6→(qcs c).1=0)∧(c / 32<6→27<c%32→(qcs c).1=0)∧(c / 32<6→c%32<24→qcs c=(qcQ (c / 32),0,c%32))∧(c / 32<6→24≤c%32→c%32≤27→qcs c=(qcQ (c / 32),2^(c%32-24),0))))=true:=by kernel_rfl
theorem qnU (c:UInt8):(c.toNat / 32=7→(c.toNat%32<20∨22<c.toNat%32)→(qcs c.toNat).1=0)∧(c.toNat / 32=6→(qcs c.toNat).1=0)∧(c.toNat / 32<6→27<c.toNat%32→(qcs c.toNat).1=0)∧(c.toNat / 32<6→c.toNat%32<24→qcs c.toNat=(qcQ (c.toNat / 32),0,c.toNat%32))∧(c.toNat / 32<6→24≤c.toNat%32→c.toNat%32≤27→qcs c.toNat=(qcQ (c.toNat / 32),2^(c.toNat%32-24),0)):=of_decide_eq_true (List.all_eq_true.1 qnw c.toNat (List.mem_range.2 c.toNat_lt))
theorem qnC:(List.range 6).all (fun u=>decide (¬qcQ u=0∧kdT u=kdR (qcQ u)∧¬qcQ u=5∧(qcQ u=6↔u=1)))=true:=by kernel_rfl
theorem qfb {u:Nat}(h:u<6):¬qcQ u=0∧kdT u=kdR (qcQ u)∧¬qcQ u=5∧(qcQ u=6↔u=1):=of_decide_eq_true (List.all_eq_true.1 qnC u (List.mem_range.2 h))
theorem qgl {u w x:Nat}(h:u<6)(h1:u=1):nR (qcQ u) w x = -1-min (x:Int) 9223372036854775807:=by
 unfold nR
 rw[if_neg (qfb h).2.2.1,if_pos ((qfb h).2.2.2.2 h1)]
theorem qgk {u w x:Nat}(h:u<6)(h1:¬u=1):nR (qcQ u) w x=min (x:Int) 9223372036854775807:=by
 unfold nR
 rw[if_neg (qfb h).2.2.1,if_neg (fun e=>h1 ((qfb h).2.2.2.1 e))]
theorem qcP {u x:Nat}(h:u<6):ovR (qcQ u) x=decide (9223372036854775807<x):=by
 unfold ovR
 rw[if_neg (qfb h).2.2.1]
theorem qc3 {r:Except (Int×Int) (Nat×Nat×Nat×Nat)}{x:Int×Int}{e:Ending}(h:qbj x e)(hr:r=.error x):qby r e:=by
 obtain⟨a,n,q,o,rfl⟩:=h
 exact qlt hr _ _ _ _
theorem qnX (c:Nat):hdO 3 c=qbG c:=rfl
theorem qgH (W:World)(bs:List UInt8)(fm d l lim:Int)(i:Nat)(hl:Lm bs l lim)(hi:InR bs lim i)(hb:bs.length≤200000000):Calls prog 207 #[.agg (inA bs fm d l),.int .i64 i] W fun e W'=>qby (hdR 2 bs lim i) e∧Below W.heap.size W W':=by
 cases hc:bs[i]? with
 |none=>exact(qeu W bs fm d l lim i _ (qaH hi.1 hc 9) (qa9 hc)).mono fun e W' h=>⟨qc3 h.1 (by unfold hdR;rw[hc]),h.2⟩
 |some c =>
  by_cases hp:(i:Int)=lim
  ·exact(qeu W bs fm d l lim i _ (qaU hl hc hp 9) (qaJ hl hc hp)).mono fun e W' h=>⟨qc3 h.1 (by unfold hdR;rw[hc];simp only[];rw[if_pos hp]),h.2⟩
  ·have hh:=qa7 hl hi hc hp
   have hn:=qav hi hc hp
   have hb9:=qa6 hl hi hc hp 9
   have h256:=c.toNat_lt
   obtain⟨k1,k2,k3,k4,k5⟩:=qnU c
   have hnone:(qcs c.toNat).1=0→∀(e:Ending) (W':World),(qbj (9,(i:Int)) e∧Below W.heap.size W W')→(qby (hdR 2 bs lim i) e∧Below W.heap.size W W'):=fun h0 e W' h=>⟨qc3 h.1 (qhJ hc hp h0),h.2⟩
   by_cases h7:c.toNat / 32=7
   ·by_cases ha:c.toNat%32<20
    ·exact(qh6 W bs fm d l lim i _ hb9 c hc hh h7 _ rfl ha).mono fun e W' h=>hnone (k1 h7 (.inl ha)) e W' h
    ·by_cases hz:22<c.toNat%32
     ·exact(qit W bs fm d l lim i _ hb9 c hc hh h7 _ rfl hz).mono fun e W' h=>hnone (k1 h7 (.inr hz)) e W' h
     ·have hv:c.toNat=244∨c.toNat=245∨c.toNat=246:=by omega
      rcases hv with hv|hv|hv
      ·exact(qfG W bs fm d l lim i c hc hh h7 (by omega) hb).mono fun e W' h=>⟨by rw[h.1];exact qdA (qcV (fm:=2) (so:=2) (x:=0) hc hp (by rw[hv];rfl) (by decide)) rfl rfl (by omega) rfl,h.2⟩
      ·exact(qfs W bs fm d l lim i c hc hh h7 (by omega) hb).mono fun e W' h=>⟨by rw[h.1];exact qdA (qcV (fm:=2) (so:=3) (x:=0) hc hp (by rw[hv];rfl) (by decide)) rfl rfl (by omega) rfl,h.2⟩
      ·exact(qfo W bs fm d l lim i c hc hh h7 (by omega) hb).mono fun e W' h=>⟨by rw[h.1];exact qdA (qcV (fm:=2) (so:=1) (x:=0) hc hp (by rw[hv];rfl) (by decide)) rfl rfl (by omega) rfl,h.2⟩
   ·by_cases h6:c.toNat / 32=6
    ·exact(qjD W bs fm d l lim i _ hb9 c hc hh h6 _ rfl).mono fun e W' h=>hnone (k2 h6) e W' h
    ·have hu:c.toNat / 32<6:=by omega
     have hup:=qfb hu
     by_cases hf:27<c.toNat%32
     ·exact(qhz W bs fm d l lim i _ hb9 c hc hh _ _ rfl hu rfl hf).mono fun e W' h=>hnone (k3 hu hf) e W' h
     ·by_cases h24:c.toNat%32<24
      ·have hone:=qcV (fm:=2) hc hp (k4 hu h24) hup.1
       by_cases h1:c.toNat / 32=1
       ·exact(qfB W bs fm d l lim i c hc hh _ _ rfl hu rfl h24 h1 hb).mono fun e W' h=>⟨by rw[h.1];exact qdA hone hup.2.1 (by rw[qgl hu h1];omega) (by omega) (by rw[qcP hu,decide_eq_false (by omega)]),h.2⟩
       ·exact(qfM W bs fm d l lim i c hc hh _ _ rfl hu rfl h24 h1 hb).mono fun e W' h=>⟨by rw[h.1];exact qdA hone hup.2.1 (by rw[qgk hu h1];omega) (by omega) (by rw[qcP hu,decide_eq_false (by omega)]),h.2⟩
      ·have hv:c.toNat%32=24∨c.toNat%32=25∨c.toNat%32=26∨c.toNat%32=27:=by omega
       have hk5:=k5 hu (by omega) (by omega)
       rcases hv with hv|hv|hv|hv
       ·rw[hv] at hk5
        by_cases h1:c.toNat / 32=1
        ·refine(qga W bs fm d l lim i c hc hh _ rfl hu hv h1 hl hn hb).mono fun e W' h=>⟨?_,h.2⟩
         obtain⟨nv,ov,F,he,hB⟩:=h.1
         rw[he]
         exact qdw (fm:=2) (so:=qcQ (c.toNat / 32)) (k:=1) hc hp hn hk5 hup.1 hB hup.2.1 rfl (fun x hx=>by rw[qgl hu h1,hx]) (fun x hx=>by rw[qcP hu,hx])
        ·refine(qhm W bs fm d l lim i c hc hh _ rfl hu hv h1 hl hn hb).mono fun e W' h=>⟨?_,h.2⟩
         obtain⟨nv,ov,F,he,hB⟩:=h.1
         rw[he]
         exact qdw (fm:=2) (so:=qcQ (c.toNat / 32)) (k:=1) hc hp hn hk5 hup.1 hB hup.2.1 rfl (fun x hx=>by rw[qgk hu h1,hx]) (fun x hx=>by rw[qcP hu,hx])
       ·rw[hv] at hk5
        by_cases h1:c.toNat / 32=1
        ·refine(qgL W bs fm d l lim i c hc hh _ rfl hu hv h1 hl hn hb).mono fun e W' h=>⟨?_,h.2⟩
         obtain⟨nv,ov,F,he,hB⟩:=h.1
         rw[he]
         exact qdw (fm:=2) (so:=qcQ (c.toNat / 32)) (k:=2) hc hp hn hk5 hup.1 hB hup.2.1 rfl (fun x hx=>by rw[qgl hu h1,hx]) (fun x hx=>by rw[qcP hu,hx])
        ·refine(qhl W bs fm d l lim i c hc hh _ rfl hu hv h1 hl hn hb).mono fun e W' h=>⟨?_,h.2⟩
         obtain⟨nv,ov,F,he,hB⟩:=h.1
         rw[he]
         exact qdw (fm:=2) (so:=qcQ (c.toNat / 32)) (k:=2) hc hp hn hk5 hup.1 hB hup.2.1 rfl (fun x hx=>by rw[qgk hu h1,hx]) (fun x hx=>by rw[qcP hu,hx])
       ·rw[hv] at hk5
        by_cases h1:c.toNat / 32=1
        ·refine(qgN W bs fm d l lim i c hc hh _ rfl hu hv h1 hl hn hb).mono fun e W' h=>⟨?_,h.2⟩
         obtain⟨nv,ov,F,he,hB⟩:=h.1
         rw[he]
         exact qdw (fm:=2) (so:=qcQ (c.toNat / 32)) (k:=4) hc hp hn hk5 hup.1 hB hup.2.1 rfl (fun x hx=>by rw[qgl hu h1,hx]) (fun x hx=>by rw[qcP hu,hx])
        ·refine(qgW W bs fm d l lim i c hc hh _ rfl hu hv h1 hl hn hb).mono fun e W' h=>⟨?_,h.2⟩
         obtain⟨nv,ov,F,he,hB⟩:=h.1
         rw[he]
         exact qdw (fm:=2) (so:=qcQ (c.toNat / 32)) (k:=4) hc hp hn hk5 hup.1 hB hup.2.1 rfl (fun x hx=>by rw[qgk hu h1,hx]) (fun x hx=>by rw[qcP hu,hx])
       ·rw[hv] at hk5
        by_cases h1:c.toNat / 32=1
        ·refine(qge W bs fm d l lim i c hc hh _ rfl hu hv h1 hl hn hb).mono fun e W' h=>⟨?_,h.2⟩
         obtain⟨nv,ov,F,he,hB⟩:=h.1
         rw[he]
         exact qdw (fm:=2) (so:=qcQ (c.toNat / 32)) (k:=8) hc hp hn hk5 hup.1 hB hup.2.1 rfl (fun x hx=>by rw[qgl hu h1,hx]) (fun x hx=>by rw[qcP hu,hx])
        ·refine(qgm W bs fm d l lim i c hc hh _ rfl hu hv h1 hl hn hb).mono fun e W' h=>⟨?_,h.2⟩
         obtain⟨nv,ov,F,he,hB⟩:=h.1
         rw[he]
         exact qdw (fm:=2) (so:=qcQ (c.toNat / 32)) (k:=8) hc hp hn hk5 hup.1 hB hup.2.1 rfl (fun x hx=>by rw[qgk hu h1,hx]) (fun x hx=>by rw[qcP hu,hx])
theorem qf4 (bs:List UInt8)(lim:Int):∀(k p a:Nat),qa0 bs lim k p a=match qa0 bs lim k p 0 with
  |.error f=>.error f
  |.ok (y,q)=>.ok (a*256^k+y,q)
 |0,p,a=>by
  rw[qa0,qa0]
  simp
 |k+1,p,a=>by
  rw[qa0,qa0]
  cases hc:bs[p]? with
  |none=>rfl
  |some c =>
   simp only[]
   by_cases hp:(p:Int)=lim
   ·rw[if_pos hp,if_pos hp]
   ·rw[if_neg hp,if_neg hp,qf4 bs lim k (p+1) (a*256+c.toNat),qf4 bs lim k (p+1) (0*256+c.toNat)]
    cases qa0 bs lim k (p+1) 0 with
    |error f=>rfl
    |ok y =>
     obtain⟨y,q⟩:=y
     simp only[]
     congr 2
     rw[Nat.zero_mul,Nat.zero_add,Nat.pow_succ,Nat.add_mul,Nat.mul_assoc,Nat.mul_comm 256 (256^k)]
     omega
theorem sx1 (x:Nat):qe3 x (1:Nat)=((x:Int)+128)%256-128:=by
 unfold qe3
 rw[if_pos (by decide)]
 have e:IntKind.i8.wrap x=((x:Int)+128)%256-128:=by
  unfold IntKind.wrap
  simp only[IntKind.bits,IntKind.signed,Bool.true_and]
  split<;>rename_i h<;>simp at h<;>omega
 rw[e]
 unfold wrap64
 omega
theorem sx2 (x:Nat):qe3 x (2:Nat)=((x:Int)+32768)%65536-32768:=by
 unfold qe3
 rw[if_neg (by decide),if_pos (by decide)]
 have e:IntKind.i16.wrap x=((x:Int)+32768)%65536-32768:=by
  unfold IntKind.wrap
  simp only[IntKind.bits,IntKind.signed,Bool.true_and]
  split<;>rename_i h<;>simp at h<;>omega
 rw[e]
 unfold wrap64
 omega
theorem sx4 (x:Nat):qe3 x (4:Nat)=((x:Int)+2147483648)%4294967296-2147483648:=by
 unfold qe3
 rw[if_neg (by decide),if_neg (by decide),if_pos (by decide)]
 unfold wrap64 wrap32
 omega
theorem sx8 (x:Nat):qe3 x (8:Nat)=wrap64 x:=by
 unfold qe3
 rw[if_neg (by decide),if_neg (by decide),if_neg (by decide)]
theorem sx0 (x:Nat):qe3 x (0:Nat)=wrap64 x:=by
 unfold qe3
 rw[if_neg (by decide),if_neg (by decide),if_neg (by decide)]
theorem qor (c:UInt8)(k y:Nat)(hk:k=1∨k=2∨k=4∨k=8)(hy:y<256^(k-1)):qe3 (c.toNat*256^(k-1)+y) k=tpF c*256^(k-1)+y:=by
 have hc:=c.toNat_lt
 rcases hk with rfl|rfl|rfl|rfl
 ·rw[sx1]
  simp at hy ⊢
  subst hy
  unfold tpF
  split<;>omega
 ·rw[sx2]
  simp at hy ⊢
  unfold tpF
  split<;>omega
 ·rw[sx4]
  simp at hy ⊢
  unfold tpF
  split<;>omega
 ·rw[sx8]
  unfold wrap64
  simp at hy ⊢
  unfold tpF
  split<;>omega
theorem qmY {bs:List UInt8}{lim:Int}{i k:Nat}{c c1:UInt8}(hc:bs[i]? = some c)(hp:¬(i:Int)=lim)(hc1:bs[i+1]? = some c1)(hp1:¬((i+1:Nat):Int)=lim)(hh:qbG c.toNat=(5,k,0))(hk:k=1∨k=2∨k=4∨k=8)(hi:InR bs lim (i+2)){e:Ending}(hS:qcT (qa0 bs lim (k-1) (i+2) 0) c1 i k e):qby (hdR 3 bs lim i) e:=by
 obtain⟨a,n,q,o,F,rfl,h1,h2⟩:=hS
 have ek:k=(k-1)+1:=by omega
 have er:qa0 bs lim k (i+1) 0=match qa0 bs lim (k-1) (i+2) 0 with
  |.error f=>.error f
  |.ok (y,q)=>.ok (c1.toNat*256^(k-1)+y,q):=by
  conv=>lhs;rw[ek,qa0,hc1]
  simp only[]
  rw[if_neg hp1,Nat.zero_mul,Nat.zero_add]
  exact qf4 bs lim (k-1) (i+2) c1.toNat
 have e:hdR 3 bs lim i=match qa0 bs lim k (i+1) 0 with
  |.error f=>.error f
  |.ok (x,q)=>.ok (5,k,x,q):=by
  unfold hdR
  rw[hc]
  simp only[]
  rw[if_neg hp,qnX,hh,if_neg (show ¬(5:Nat)=0 by decide)]
  rfl
 rw[er] at e
 cases hr:qa0 bs lim (k-1) (i+2) 0 with
 |error f =>
  rw[hr] at e
  have:=h2 f hr
  subst this
  exact qlt e _ _ _ _
 |ok z =>
  obtain⟨y,p⟩:=z
  rw[hr] at e
  obtain⟨rfl,rfl,rfl,rfl,rfl⟩:=h1 y p hr
  have hpp:=(qcH (k-1) (i+2) 0 y p hi hr).1
  have hy:=qc9 bs lim _ _ _ _ _ hr
  rw[Nat.zero_add,Nat.one_mul] at hy
  refine qdA e rfl ?_ (by omega) rfl
  unfold nR
  rw[if_pos rfl]
  exact(qor c1 k y hk hy).symm
theorem qgX (W:World)(bs:List UInt8)(fm d l lim:Int)(i:Nat)(hl:Lm bs l lim)(hi:InR bs lim i)(hb:bs.length≤200000000):Calls prog 208 #[.agg (inA bs fm d l),.int .i64 i] W fun e W'=>qby (hdR 3 bs lim i) e∧Below W.heap.size W W':=by
 cases hc:bs[i]? with
 |none=>exact(qed W bs fm d l lim i _ (qaH hi.1 hc 9) (qa9 hc)).mono fun e W' h=>⟨qc3 h.1 (by unfold hdR;rw[hc]),h.2⟩
 |some c =>
  by_cases hp:(i:Int)=lim
  ·exact(qed W bs fm d l lim i _ (qaU hl hc hp 9) (qaJ hl hc hp)).mono fun e W' h=>⟨qc3 h.1 (by unfold hdR;rw[hc];simp only[];rw[if_pos hp]),h.2⟩
  ·have hh:=qa7 hl hi hc hp
   have hn:=qav hi hc hp
   have hb9:=qa6 hl hi hc hp 9
   have h256:=c.toNat_lt
   by_cases a1:c.toNat<128
   ·have he:qbG c.toNat=(4,0,c.toNat):=by unfold qbG;rw[if_pos a1]
    exact(qjU W bs fm d l lim i c hc hh (by omega) (by omega) hb).mono fun e W' h=>⟨by rw[h.1];exact qdA (qcV (fm:=3) hc hp he (by decide)) rfl (by unfold nR;rw[if_neg (by decide),if_neg (by decide)];omega) (by omega) (by unfold ovR;rw[if_neg (by decide),decide_eq_false (by omega)]),h.2⟩
   by_cases a2:c.toNat<144
   ·have he:qbG c.toNat=(10,0,c.toNat-128):=by unfold qbG;rw[if_neg a1,if_pos a2]
    exact(qj6 W bs fm d l lim i c hc hh (by omega) (by omega) hb).mono fun e W' h=>⟨by rw[h.1];exact qdA (qcV (fm:=3) hc hp he (by decide)) rfl (by unfold nR;rw[if_neg (by decide),if_neg (by decide)];omega) (by omega) (by unfold ovR;rw[if_neg (by decide),decide_eq_false (by omega)]),h.2⟩
   by_cases a3:c.toNat<160
   ·have he:qbG c.toNat=(9,0,c.toNat-144):=by unfold qbG;rw[if_neg a1,if_neg a2,if_pos a3]
    exact(qjL W bs fm d l lim i c hc hh (by omega) (by omega) hb).mono fun e W' h=>⟨by rw[h.1];exact qdA (qcV (fm:=3) hc hp he (by decide)) rfl (by unfold nR;rw[if_neg (by decide),if_neg (by decide)];omega) (by omega) (by unfold ovR;rw[if_neg (by decide),decide_eq_false (by omega)]),h.2⟩
   by_cases a4:c.toNat<192
   ·have he:qbG c.toNat=(8,0,c.toNat-160):=by unfold qbG;rw[if_neg a1,if_neg a2,if_neg a3,if_pos a4]
    exact(qkh W bs fm d l lim i c hc hh (by omega) (by omega) hb).mono fun e W' h=>⟨by rw[h.1];exact qdA (qcV (fm:=3) hc hp he (by decide)) rfl (by unfold nR;rw[if_neg (by decide),if_neg (by decide)];omega) (by omega) (by unfold ovR;rw[if_neg (by decide),decide_eq_false (by omega)]),h.2⟩
   by_cases a5:224≤c.toNat
   ·have he:qbG c.toNat=(5,0,18446744073709551360+c.toNat):=by unfold qbG;rw[if_neg a1,if_neg a2,if_neg a3,if_neg a4,if_neg (by omega)]
    exact(qjo W bs fm d l lim i c hc hh (by omega) (by omega) hb).mono fun e W' h=>⟨by rw[h.1];exact qdA (qcV (fm:=3) hc hp he (by decide)) rfl (by unfold nR;rw[if_pos rfl,sx0];unfold wrap64;omega) (by omega) rfl,h.2⟩
   have hnone:∀v,c.toNat=v→(qbG v).1=0→∀(e:Ending) (W':World),(qbj (9,(i:Int)) e∧Below W.heap.size W W')→(qby (hdR 3 bs lim i) e∧Below W.heap.size W W'):=fun v hv h0 e W' h=>⟨qc3 h.1 (qhJ hc hp (by rw[qnX,hv];exact h0)),h.2⟩
   have hone:∀v so,c.toNat=v→qbG v=(so,0,0)→¬so=0→¬so=5→¬so=6→qby (hdR 3 bs lim i) (.returned (.tuple #[.agg (hdC (kdR so) 0 ((i:Int)+1) false),.agg (qae (0,0))])):=fun v so hv h0 h1 h5 h6=>qdA (qcV (fm:=3) hc hp (by rw[qnX,hv];exact h0) h1) rfl (by unfold nR;rw[if_neg h5,if_neg h6];rfl) (by omega) (by unfold ovR;rw[if_neg h5];rfl)
   have hbig:∀v so k (kd:Int),c.toNat=v→qbG v=(so,k,0)→¬so=0→¬so=5→¬so=6→kd=kdR so→∀(e:Ending) (W':World),(qaY (qa0 bs lim k (i+1) 0) kd (fun nv=>nv) ((i:Int)+1+k) e∧Below W.heap.size W W')→(qby (hdR 3 bs lim i) e∧Below W.heap.size W W'):=fun v so k kd hv h0 h1 h5 h6 hkd e W' h=>by
    obtain⟨⟨nv,ov,F,rfl,hB⟩,h2⟩:=h
    exact⟨qdw hc hp hn (by rw[qnX,hv];exact h0) h1 hB hkd rfl (fun x hx=>by unfold nR;rw[if_neg h5,if_neg h6,hx]) (fun x hx=>by unfold ovR;rw[if_neg h5,hx]),h2⟩
   have hsig:∀v k,c.toNat=v→qbG v=(5,k,0)→(k=1∨k=2∨k=4∨k=8)→(∀x,qaI bs l (i+1) 9=x→qaz bs l (i+1)=false→Calls prog 208 #[.agg (inA bs fm d l),.int .i64 i] W fun e W'=>qbj x e∧Below W.heap.size W W')→(∀c1,qaz bs l (i+1)=true→bs[i+1]? = some c1→InR bs lim (i+2)→Calls prog 208 #[.agg (inA bs fm d l),.int .i64 i] W fun e W'=>qcT (qa0 bs lim (k-1) (i+2) 0) c1 i k e∧Below W.heap.size W W')→Calls prog 208 #[.agg (inA bs fm d l),.int .i64 i] W fun e W'=>qby (hdR 3 bs lim i) e∧Below W.heap.size W W':=fun v k hv h0 hk hx hs=>by
    have hp8:qbG c.toNat=(5,k,0):=by rw[hv];exact h0
    have e:∀f,qa0 bs lim k (i+1) 0=.error f→hdR 3 bs lim i=.error f:=fun f hf=>by
     unfold hdR
     rw[hc]
     simp only[]
     rw[if_neg hp,qnX,hp8,if_neg (show ¬(5:Nat)=0 by decide)]
     simp only[]
     rw[hf]
    have ek:k=(k-1)+1:=by omega
    cases hc1:bs[i+1]? with
    |none=>exact(hx _ (qaH hn.1 hc1 9) (qa9 hc1)).mono fun e' W' h=>⟨qc3 h.1 (e _ (by rw[ek,qa0,hc1])),h.2⟩
    |some c1 =>
     by_cases hp1:((i+1:Nat):Int)=lim
     ·exact(hx _ (qaU hl hc1 hp1 9) (qaJ hl hc1 hp1)).mono fun e' W' h=>⟨qc3 h.1 (e _ (by rw[ek,qa0,hc1];simp only[];rw[if_pos hp1])),h.2⟩
     ·have hi2:=qav hn hc1 hp1
      exact(hs c1 (qa7 hl hn hc1 hp1) hc1 hi2).mono fun e' W' h=>⟨qmY hc hp hc1 hp1 hp8 hk hi2 h.1,h.2⟩
   have hv:c.toNat=192∨c.toNat=193∨c.toNat=194∨c.toNat=195∨c.toNat=196∨c.toNat=197∨c.toNat=198∨(199≤c.toNat∧c.toNat≤203)∨c.toNat=204∨c.toNat=205∨c.toNat=206∨c.toNat=207∨c.toNat=208∨c.toNat=209∨c.toNat=210∨c.toNat=211∨(212≤c.toNat∧c.toNat≤216)∨c.toNat=217∨c.toNat=218∨c.toNat=219∨c.toNat=220∨c.toNat=221∨c.toNat=222∨c.toNat=223:=by omega
   rcases hv with hv|hv|hv|hv|hv|hv|hv|hv|hv|hv|hv|hv|hv|hv|hv|hv|hv|hv|hv|hv|hv|hv|hv|hv
   ·exact(qhn W bs fm d l lim i c hc hh hv hb).mono fun e W' h=>⟨by rw[h.1];exact hone 192 1 hv rfl (by decide) (by decide) (by decide),h.2⟩
   ·exact(qh5 W bs fm d l lim i _ hb9 c hc hh hv).mono fun e W' h=>hnone 193 hv rfl e W' h
   ·exact(qfZ W bs fm d l lim i c hc hh hv hb).mono fun e W' h=>⟨by rw[h.1];exact hone 194 2 hv rfl (by decide) (by decide) (by decide),h.2⟩
   ·exact(qgJ W bs fm d l lim i c hc hh hv hb).mono fun e W' h=>⟨by rw[h.1];exact hone 195 3 hv rfl (by decide) (by decide) (by decide),h.2⟩
   ·exact(qgP W bs fm d l lim i c hc hh hv hl hn hb).mono fun e W' h=>hbig 196 7 1 5 hv rfl (by decide) (by decide) (by decide) rfl e W' h
   ·exact(qgU W bs fm d l lim i c hc hh hv hl hn hb).mono fun e W' h=>hbig 197 7 2 5 hv rfl (by decide) (by decide) (by decide) rfl e W' h
   ·exact(qgG W bs fm d l lim i c hc hh hv hl hn hb).mono fun e W' h=>hbig 198 7 4 5 hv rfl (by decide) (by decide) (by decide) rfl e W' h
   ·have hz:(qbG c.toNat).1=0:=by
     have h5:c.toNat=199∨c.toNat=200∨c.toNat=201∨c.toNat=202∨c.toNat=203:=by omega
     rcases h5 with h5|h5|h5|h5|h5<;>rw[h5]<;>rfl
    exact(qip W bs fm d l lim i _ hb9 c hc hh (by omega) (by omega)).mono fun e W' h=>hnone _ rfl hz e W' h
   ·exact(qgr W bs fm d l lim i c hc hh hv hl hn hb).mono fun e W' h=>hbig 204 4 1 3 hv rfl (by decide) (by decide) (by decide) rfl e W' h
   ·exact(qg8 W bs fm d l lim i c hc hh hv hl hn hb).mono fun e W' h=>hbig 205 4 2 3 hv rfl (by decide) (by decide) (by decide) rfl e W' h
   ·exact(qgO W bs fm d l lim i c hc hh hv hl hn hb).mono fun e W' h=>hbig 206 4 4 3 hv rfl (by decide) (by decide) (by decide) rfl e W' h
   ·exact(qhc W bs fm d l lim i c hc hh hv hl hn hb).mono fun e W' h=>hbig 207 4 8 3 hv rfl (by decide) (by decide) (by decide) rfl e W' h
   ·exact hsig 208 1 hv rfl (by decide) (fun x h1 h2=>qfS W bs fm d l lim i x h1 h2 c hc hh hv hb) (fun c1 h1 h2 h3=>qgs W bs fm d l lim i c hc hh hv h1 c1 h2 hl h3 hb)
   ·exact hsig 209 2 hv rfl (by decide) (fun x h1 h2=>qfR W bs fm d l lim i x h1 h2 c hc hh hv hb) (fun c1 h1 h2 h3=>qht W bs fm d l lim i c hc hh hv h1 c1 h2 hl h3 hb)
   ·exact hsig 210 4 hv rfl (by decide) (fun x h1 h2=>qfN W bs fm d l lim i x h1 h2 c hc hh hv hb) (fun c1 h1 h2 h3=>qgQ W bs fm d l lim i c hc hh hv h1 c1 h2 hl h3 hb)
   ·exact hsig 211 8 hv rfl (by decide) (fun x h1 h2=>qf3 W bs fm d l lim i x h1 h2 c hc hh hv hb) (fun c1 h1 h2 h3=>qhb W bs fm d l lim i c hc hh hv h1 c1 h2 hl h3 hb)
   ·have hz:(qbG c.toNat).1=0:=by
     have h5:c.toNat=212∨c.toNat=213∨c.toNat=214∨c.toNat=215∨c.toNat=216:=by omega
     rcases h5 with h5|h5|h5|h5|h5<;>rw[h5]<;>rfl
    exact(qhN W bs fm d l lim i _ hb9 c hc hh (by omega) (by omega)).mono fun e W' h=>hnone _ rfl hz e W' h
   ·exact(qhg W bs fm d l lim i c hc hh hv hl hn hb).mono fun e W' h=>hbig 217 8 1 4 hv rfl (by decide) (by decide) (by decide) rfl e W' h
   ·exact(qgo W bs fm d l lim i c hc hh hv hl hn hb).mono fun e W' h=>hbig 218 8 2 4 hv rfl (by decide) (by decide) (by decide) rfl e W' h
   ·exact(qgg W bs fm d l lim i c hc hh hv hl hn hb).mono fun e W' h=>hbig 219 8 4 4 hv rfl (by decide) (by decide) (by decide) rfl e W' h
   ·exact(qhs W bs fm d l lim i c hc hh hv hl hn hb).mono fun e W' h=>hbig 220 9 2 6 hv rfl (by decide) (by decide) (by decide) rfl e W' h
   ·exact(qgi W bs fm d l lim i c hc hh hv hl hn hb).mono fun e W' h=>hbig 221 9 4 6 hv rfl (by decide) (by decide) (by decide) rfl e W' h
   ·exact(qgM W bs fm d l lim i c hc hh hv hl hn hb).mono fun e W' h=>hbig 222 10 2 7 hv rfl (by decide) (by decide) (by decide) rfl e W' h
   ·exact(qhi W bs fm d l lim i c hc hh hv hl hn hb).mono fun e W' h=>hbig 223 10 4 7 hv rfl (by decide) (by decide) (by decide) rfl e W' h
theorem qm8 (W:World)(bs:List UInt8)(fm d l lim:Int)(i:Nat)(hl:Lm bs l lim)(hi:InR bs lim i)(hb:bs.length≤200000000)(hfm:fm=2):Calls prog 175 #[.agg (inA bs fm d l),.int .i64 i] W fun e W'=>qby (hdR 2 bs lim i) e∧Below W.heap.size W W':=by
 have tf:(fm==2)=true:=by rw[hfm];rfl
 have cC:∀V,Calls prog 207 #[.agg #[.string ⟨bs.toArray⟩,.int .i64 fm,.int .i64 d,.int .i64 l],.int .i64 i] V fun e W'=>qby (hdR 2 bs lim i) e∧Below V.heap.size V W':=fun V=>qgH V bs fm d l lim i hl hi hb
 have HX:=qat W bs fm d l
 clear hl hi hb hfm
 unfold inA
 go_enter func175,ntmps175
 go_wp2_with (first
  |(go_at_call 207;refine(cC _).mono ?_;clear cC;rintro e w9 ⟨⟨a,n,q,o,F,rfl,h1,h2⟩,hB9⟩;have HX9:=qac (HX.out.next hB9);have HS:Hid (qby (hdR 2 bs lim i) (.returned (.tuple #[.agg (hdC a n q o),.agg (qae F)]))):=⟨a,n,q,o,F,rfl,h1,h2⟩;clear h1 h2)
  |((with_reducible refine zH 4 12 rfl rfl (W.heap.size+1) a n q o ?_ ?_);exact⟨rfl,rfl,HX9.out.hd⟩)
  |((with_reducible refine zF 5 13 rfl rfl (W.heap.size+2) (F) ?_ ?_);exact⟨rfl,rfl,sx (by omega) HX9.out.flt⟩))
 have hf:=HX9.out.fin (hdC a n q o) (F)
 refine eoH results175 hf rfl rfl rfl ⟨?_,hf.2.2⟩
 exact HS.out
theorem qmz (W:World)(bs:List UInt8)(fm d l lim:Int)(i:Nat)(hl:Lm bs l lim)(hi:InR bs lim i)(hb:bs.length≤200000000)(hfm:fm=3):Calls prog 175 #[.agg (inA bs fm d l),.int .i64 i] W fun e W'=>qby (hdR 3 bs lim i) e∧Below W.heap.size W W':=by
 have tf:(fm==2)=false:=by rw[hfm];rfl
 have cC:∀V,Calls prog 208 #[.agg #[.string ⟨bs.toArray⟩,.int .i64 fm,.int .i64 d,.int .i64 l],.int .i64 i] V fun e W'=>qby (hdR 3 bs lim i) e∧Below V.heap.size V W':=fun V=>qgX V bs fm d l lim i hl hi hb
 have HX:=qat W bs fm d l
 clear hl hi hb hfm
 unfold inA
 go_enter func175,ntmps175
 go_wp2_with (first
  |(go_at_call 208;refine(cC _).mono ?_;clear cC;rintro e w9 ⟨⟨a,n,q,o,F,rfl,h1,h2⟩,hB9⟩;have HX9:=qac (HX.out.next hB9);have HS:Hid (qby (hdR 3 bs lim i) (.returned (.tuple #[.agg (hdC a n q o),.agg (qae F)]))):=⟨a,n,q,o,F,rfl,h1,h2⟩;clear h1 h2)
  |((with_reducible refine zH 4 17 rfl rfl (W.heap.size+1) a n q o ?_ ?_);exact⟨rfl,rfl,HX9.out.hd⟩)
  |((with_reducible refine zF 5 18 rfl rfl (W.heap.size+2) (F) ?_ ?_);exact⟨rfl,rfl,sx (by omega) HX9.out.flt⟩))
 have hf:=HX9.out.fin (hdC a n q o) (F)
 refine eoH results175 hf rfl rfl rfl ⟨?_,hf.2.2⟩
 exact HS.out
theorem qiY (W:World)(bs:List UInt8)(fm d l lim:Int)(i:Nat)(hl:Lm bs l lim)(hi:InR bs lim i)(hb:bs.length≤200000000)(hfm:fm=2∨fm=3):Calls prog 175 #[.agg (inA bs fm d l),.int .i64 i] W fun e W'=>qby (hdR fm bs lim i) e∧Below W.heap.size W W':=by
 rcases hfm with rfl|rfl
 ·exact qm8 W bs 2 d l lim i hl hi hb rfl
 ·exact qmz W bs 3 d l lim i hl hi hb rfl
end
end Go.Proofs.YtllcbnfmihfaaaaGreatDoor
