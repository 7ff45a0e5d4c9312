import Derived.Test.YtllcbnfmihfaaaaGreatDoorUq48
import Derived.Test.YtllcbnfmihfaaaaGreatDoorUq46
set_option maxRecDepth 100000
set_option maxHeartbeats 8000000
namespace Go.Proofs.YtllcbnfmihfaaaaGreatDoor
open Go.Proofs.Tryz
section
open Go.RowKit Go.Lib
theorem qoe {fm:Int}(hfm:fm=2∨fm=3)(c:UInt8):(hdO fm c.toNat).1≤10:=by
 rcases hfm with rfl|rfl
 ·exact(qn0 c.toNat c.toNat_lt).1
 ·exact(qnD c.toNat c.toNat_lt).1
theorem qiQ (so w x:Nat)(h5:¬so=5)(h6:¬so=6):nR so w x=min (x:Int) 9223372036854775807:=by
 unfold nR
 rw[if_neg h5,if_neg h6]
theorem qdy (x:Int):-9223372036854775808≤wrap64 x∧wrap64 x≤9223372036854775807:=by
 unfold wrap64
 omega
theorem qle (x:Nat)(w:Int):-9223372036854775808≤qe3 x w∧qe3 x w≤9223372036854775807:=by
 unfold qe3
 split
 ·exact qdy _
 ·split
  ·exact qdy _
  ·split
   ·exact qdy _
   ·exact qdy _
theorem qln (bs:List UInt8)(fm depth l lim:Int)(hfm:fm=2∨fm=3)(hl:Lm bs l lim)(hb:bs.length≤200000000)(hd2:depth≤100000):∀(g wi:Nat) (W:World) (i:Nat),(wi:Int)≤depth→depth<wi+g→InR bs lim i →
  Calls prog 116 #[.agg (inA bs fm depth l),.int .i64 i,.int .i64 wi] W (qaK g bs lim W (thB (hdO fm) bs lim depth g wi i)):=by
 intro g
 induction g with
 |zero=>exact fun wi W i h1 h2 _=>absurd h2 (by omega)
 |succ g ih =>
  intro wi W i h1 h2 hi
  have cD:=fun V=>qiY V bs fm depth l lim i hl hi hb hfm
  have cE:∀f,hdR fm bs lim i=.error f→∀V,Calls prog 175 #[.agg (inA bs fm depth l),.int .i64 i] V fun e W'=>qbj f e∧Below V.heap.size V W':=fun f hf V=>(cD V).mono fun e W' h=>by
   obtain⟨⟨a,n,q,o,F,he,_,h4⟩,h5⟩:=h
   obtain rfl:=h4 f hf
   exact⟨⟨a,n,q,o,he⟩,h5⟩
  have cO:∀so w x q,hdR fm bs lim i=.ok (so,w,x,q)→∀V,Calls prog 175 #[.agg (inA bs fm depth l),.int .i64 i] V fun e W'=>e=.returned (.tuple #[.agg (hdC (kdR so) (nR so w x) (q:Int) (ovR so x)),.agg (qae (0,0))])∧Below V.heap.size V W':=fun so w x q hf V=>(cD V).mono fun e W' h=>by
   obtain⟨⟨a,n,q',o,F,he,h3,_⟩,h5⟩:=h
   obtain⟨rfl,rfl,rfl,rfl,rfl⟩:=h3 so w x q hf
   exact⟨he,h5⟩
  have herr:∀f,hdR fm bs lim i=.error f→qaz bs l i=false→(f.1==0)=false→Calls prog 116 #[.agg (inA bs fm depth l),.int .i64 i,.int .i64 wi] W (qaK (g+1) bs lim W (.error f)):=fun f hf hh hne=>qmc g W bs fm depth l lim i wi f hne hh (cE f hf)
  cases hc:bs[i]? with
  |none =>
   conv=>rhs;rw[thB,hc]
   exact herr _ (by unfold hdR;rw[hc]) (qa9 hc) rfl
  |some c =>
   by_cases hp:(i:Int)=lim
   ·conv=>rhs;rw[thB,hc]
    simp only[]
    rw[if_pos hp]
    exact herr _ (by unfold hdR;rw[hc];simp only[];rw[if_pos hp]) (qaJ hl hc hp) rfl
   ·have hh:=qa7 hl hi hc hp
    have hn:=qav hi hc hp
    have cI:=fun V=>qeh V bs fm depth l i c hc hfm
    have hle:=qoe hfm c
    obtain⟨so,w,ar,hso⟩:∃so w ar,hdO fm c.toNat=(so,w,ar):=⟨_,_,_,rfl⟩
    rw[qdV hc hp hso]
    rw[hso] at cI hle
    simp only[] at cI hle
    have hhd:¬so=0→hdR fm bs lim i=match qa0 bs lim w (i+1) ar with
      |.error f=>.error f
      |.ok (x,q)=>.ok (so,w,x,q):=fun h0=>by
     unfold hdR
     rw[hc]
     simp only[]
     rw[if_neg hp,hso,if_neg h0]
     rfl
    by_cases h0:so=0
    ·rw[if_pos h0]
     have e:hdR fm bs lim i=.error (9,(i:Int)):=qhJ hc hp (by rw[hso];exact h0)
     refine qjg g W bs fm depth l lim i wi _ rfl hh (fun V => ?_) (cE _ e)
     have h:=cI V
     rw[decide_eq_false (by omega)] at h
     exact h
    ·rw[if_neg h0]
     have hhd:=hhd h0
     by_cases hct:so=9∨so=10
     ·have cI1:=cI
      rw[decide_eq_true hct] at cI1
      by_cases hdp:(wi:Int)=depth
      ·rw[if_pos ⟨hct,hdp⟩]
       exact qmf g W bs fm depth l lim i wi hh cI1 (by omega) (qa6 hl hi hc hp 11)
      ·rw[if_neg (fun h=>hdp h.2)]
       cases har:qa0 bs lim w (i+1) ar with
       |error f =>
        rw[har] at hhd
        have hne:(f.1==0)=false:=by have:=qcN bs lim _ _ _ f.1 f.2 har;simpa using this
        exact qmD g W bs fm depth l lim i wi f hne hh cI1 (by omega) (cE f hhd)
       |ok y =>
        obtain⟨x,q⟩:=y
        rw[har] at hhd
        have hq:=(qcH _ _ _ _ _ hn har).2
        have hO:=cO so w x q hhd
        simp only[]
        have hJ:∀V (p:Nat),InR bs lim p→Calls prog 116 #[.agg (inA bs fm depth l),.int .i64 p,.int .i64 ((wi:Int)+1)] V (qaK g bs lim V (thB (hdO fm) bs lim depth g (wi+1) p)):=fun V p hip=>ih (wi+1) V p (by omega) (by omega) hip
        have hbad:∀p,Bad (thB (hdO fm) bs lim depth g (wi+1) p):=fun p=>qfz (hdO fm) bs lim depth g (wi+1) p (by omega) (by omega)
        have hgo:∀p x q,thB (hdO fm) bs lim depth g (wi+1) p=.ok (x,q)→p<q:=fun p x q h=>qeT (hdO fm) bs lim depth g (wi+1) p x q h
        rcases hct with rfl|rfl
        ·have hP:=fun V=>qjN g V bs fm depth l lim q x (nR 9 w x) (ovR 9 x) wi (qiQ _ _ _ (by decide) (by decide)) hl hq hb (by omega) (by omega) (thB (hdO fm) bs lim depth g (wi+1)) hbad hgo hJ
         exact qjK g W bs fm depth l lim i wi (nR 9 w x) q (ovR 9 x) _ hP hh cI1 (by omega) hO
        ·have hP:=fun V=>qkJ g V bs fm depth l lim q x (nR 10 w x) (ovR 10 x) wi (qiQ _ _ _ (by decide) (by decide)) hl hq hb (by omega) (by omega) hfm (thB (hdO fm) bs lim depth g (wi+1)) hbad hgo hJ
         exact qj7 g W bs fm depth l lim i wi (nR 10 w x) q (ovR 10 x) _ hP hh cI1 (by omega) hO
     ·have cI1:=cI
      rw[decide_eq_false hct] at cI1
      rw[if_neg (fun h=>hct h.1)]
      cases har:qa0 bs lim w (i+1) ar with
      |error f =>
       rw[har] at hhd
       have hne:(f.1==0)=false:=by have:=qcN bs lim _ _ _ f.1 f.2 har;simpa using this
       exact qjg g W bs fm depth l lim i wi f hne hh cI1 (cE f hhd)
      |ok y =>
       obtain⟨x,q⟩:=y
       rw[har] at hhd
       obtain⟨hqe,hq⟩:=qcH _ _ _ _ _ hn har
       have hq0:0<q:=by omega
       have hO:=cO so w x q hhd
       simp only[]
       have hv:so=1∨so=2∨so=3∨so=4∨so=5∨so=6∨so=7∨so=8:=by omega
       rcases hv with rfl|rfl|rfl|rfl|rfl|rfl|rfl|rfl
       ·exact qlC g W bs fm depth l lim i wi _ q _ hq hh cI1 hO
       ·exact qkI g W bs fm depth l lim i wi _ q _ hq hh cI1 hO
       ·exact qlr g W bs fm depth l lim i wi _ q _ hq hh cI1 hO
       ·by_cases hx:9223372036854775807<x
        ·have e:ovR 4 x=true:=by unfold ovR;rw[if_neg (by decide),decide_eq_true hx]
         rw[e] at hO
         have hr:nbF 4 w x q=.error (10,(q:Int)-1):=by unfold nbF;rw[if_neg (by decide),if_pos hx]
         unfold qej
         simp only[]
         rw[hr]
         exact qiA g W bs fm depth l lim i wi _ q hq hq0 hl hb hh cI1 hO
        ·have e:ovR 4 x=false:=by unfold ovR;rw[if_neg (by decide),decide_eq_false hx]
         have e2:nR 4 w x=(x:Int):=by unfold nR;rw[if_neg (by decide),if_neg (by decide)];omega
         rw[e,e2] at hO
         have hr:nbF 4 w x q=.ok (x:Int):=by unfold nbF;rw[if_neg (by decide),if_neg hx,if_neg (by decide)]
         unfold qej
         simp only[]
         rw[hr]
         exact qiv g W bs fm depth l lim i wi _ q (by omega) (by omega) hq hh cI1 hO
       ·have e2:nR 5 w x=qe3 x w:=by unfold nR;rw[if_pos rfl]
        rw[e2] at hO
        have hr:nbF 5 w x q=.ok (qe3 x w):=by unfold nbF;rw[if_pos (by decide)]
        unfold qej
        simp only[]
        rw[hr]
        exact qiv g W bs fm depth l lim i wi _ q (qle x w).1 (qle x w).2 hq hh cI1 hO
       ·by_cases hx:9223372036854775807<x
        ·have e:ovR 6 x=true:=by unfold ovR;rw[if_neg (by decide),decide_eq_true hx]
         rw[e] at hO
         have hr:nbF 6 w x q=.error (10,(q:Int)-1):=by unfold nbF;rw[if_neg (by decide),if_pos hx]
         unfold qej
         simp only[]
         rw[hr]
         exact qiA g W bs fm depth l lim i wi _ q hq hq0 hl hb hh cI1 hO
        ·have e:ovR 6 x=false:=by unfold ovR;rw[if_neg (by decide),decide_eq_false hx]
         have e2:nR 6 w x = -1-(x:Int):=by unfold nR;rw[if_neg (by decide),if_pos rfl];omega
         rw[e,e2] at hO
         have hr:nbF 6 w x q=.ok (-1-(x:Int)):=by unfold nbF;rw[if_neg (by decide),if_neg hx,if_pos (by decide)]
         unfold qej
         simp only[]
         rw[hr]
         exact qiv g W bs fm depth l lim i wi _ q (by omega) (by omega) hq hh cI1 hO
       ·have cR:=fun V=>qlc V bs fm depth l lim q x (nR 7 w x) (qiQ _ _ _ (by decide) (by decide)) hl hq hb
        unfold qej
        simp only[]
        cases hr:qch bs lim x q [] with
        |error f =>
         rw[hr] at cR
         exact qjE g W bs fm depth l lim i wi _ q _ f cR hh cI1 hO
        |ok y =>
         obtain⟨lx,r⟩:=y
         rw[hr] at cR
         exact qlu g W bs fm depth l lim i wi _ q _ lx r (qjd _ _ _ _ _ hq hr).1 cR hh cI1 hO
       ·have cR:=fun V=>qiK V bs fm depth l lim q x (nR 8 w x) (qiQ _ _ _ (by decide) (by decide)) hl hq hb
        unfold qej
        simp only[]
        cases hr:qbt bs lim x q [] 0 with
        |error f =>
         rw[hr] at cR
         exact qlB g W bs fm depth l lim i wi _ q _ f cR hh cI1 hO
        |ok y =>
         obtain⟨lx,r⟩:=y
         rw[hr] at cR
         exact qlT g W bs fm depth l lim i wi _ q _ lx r (qf8 _ _ _ _ _ _ hq hr).1 cR hh cI1 hO
theorem qnH (k:Nat)(W:World)(bs:List UInt8)(fm d l lim:Int)(i:Nat)(r:Except (Int×Int) (DataW Unit×Nat))(hfm:fm=1)(cJ:∀V,Calls prog 115 #[.agg (inA bs fm d l),.int .i64 i,.int .i64 0] V (qa5 k bs lim V r)):Calls prog 70 #[.agg (inA bs fm d l),.int .i64 i] W (qa5 k bs lim W r):=by
 have tf:(fm==1)=true:=by simpa using hfm
 have HCC:Hid (∀V,Calls prog 115 #[.agg #[.string ⟨bs.toArray⟩,.int .i64 fm,.int .i64 d,.int .i64 l],.int .i64 i,.int .i64 0] V (qa5 k bs lim V r)):=cJ
 have HX:=qbk W bs fm d l
 have hsz:∀A,(((W.alloc (.cells A 143)).alloc (.cells th0 93)).alloc (.cells (qae (0,0)) 95)).heap.size=W.heap.size+3:=fun A=>by simp
 clear hfm cJ
 unfold inA
 go_enter func70,ntmps70
 go_wp2_with fail
 refine(HCC.out _).mono ?_
 rintro e w3 hrd
 obtain⟨hB3,r',kk,nn,s,a1,i1,j1,b1,p1,m1,z,F,hlo,rfl,hA,hF⟩:=qck hrd
 have HX3:=qac (HX.out.next hB3)
 have HLO:Hid (qaZ bs lim r r'):=hlo
 have HFE:Hid (∀f,r'=.error f→F=f):=hF
 have HA:Hid (∀dd q,r'=.ok (dd,q)→InR bs lim q∧z=(q:Int)∧F=(0,0)∧qbD k w3 (fun j=>W.heap.size+3≤j∧j<w3.heap.size) (.agg (thA kk nn s (.slice a1 i1 j1) (.slice b1 p1 m1))) dd):=fun dd q h=>⟨(hA dd q h).1,(hA dd q h).2.1,(hA dd q h).2.2.1,(hA dd q h).2.2.2.same (fun j hj=>⟨by have h2:=hj.1;have h3:=hsz #[.string ⟨bs.toArray⟩,.int .i64 fm,.int .i64 d,.int .i64 l];unfold th0 thA qaf qae at h3;simp only[World.size_alloc] at h2 h3;omega,hj.2⟩) (fun _ _=>rfl)⟩
 clear hrd hlo hF hA HCC hsz
 simp only[]
 go_wp2_with (first
  |((with_reducible refine zT 4 13 rfl rfl (W.heap.size+1) (thA kk nn s (.slice a1 i1 j1) (.slice b1 p1 m1)) ?_ ?_);exact⟨rfl,rfl,HX3.out.th,thg⟩)
  |((with_reducible refine zF 6 15 rfl rfl (W.heap.size+2) (F) ?_ ?_);exact⟨rfl,rfl,qan HX3.out bwR _⟩))
 have hf:=qao HX3.out bwR (thA kk nn s (.slice a1 i1 j1) (.slice b1 p1 m1)) (F)
 refine eoT results70 hf (.int .i64 z) rfl rfl rfl rfl ⟨hf.2.2,r',HLO.out,?_⟩
 cases r' with
 |error f =>
  obtain rfl:=HFE.out f rfl
  exact⟨_,_,_,_,_,_,_,_,_,_,rfl⟩
 |ok y =>
  obtain⟨dd,q⟩:=y
  obtain⟨hq,rfl,rfl,hA⟩:=HA.out dd q rfl
  refine⟨hq,_,_,_,_,_,_,_,_,_,rfl,hA.same (fun j hj=>⟨by have:=hj.1;omega,by simpa using hj.2⟩) (fun j hj => ?_)⟩
  rw[setRow_other _ _ _ _ (by omega),setRow_other _ _ _ _ (by omega)]
theorem qk6 (k:Nat)(W:World)(bs:List UInt8)(fm d l lim:Int)(i:Nat)(r:Except (Int×Int) (DataW Unit×Nat))(hfm:¬fm=1)(cJ:∀V,Calls prog 116 #[.agg (inA bs fm d l),.int .i64 i,.int .i64 0] V (qa5 k bs lim V r)):Calls prog 70 #[.agg (inA bs fm d l),.int .i64 i] W (qa5 k bs lim W r):=by
 have tf:(fm==1)=false:=by simpa using hfm
 have HCC:Hid (∀V,Calls prog 116 #[.agg #[.string ⟨bs.toArray⟩,.int .i64 fm,.int .i64 d,.int .i64 l],.int .i64 i,.int .i64 0] V (qa5 k bs lim V r)):=cJ
 have HX:=qbk W bs fm d l
 have hsz:∀A,(((W.alloc (.cells A 143)).alloc (.cells th0 93)).alloc (.cells (qae (0,0)) 95)).heap.size=W.heap.size+3:=fun A=>by simp
 clear hfm cJ
 unfold inA
 go_enter func70,ntmps70
 go_wp2_with fail
 refine(HCC.out _).mono ?_
 rintro e w3 hrd
 obtain⟨hB3,r',kk,nn,s,a1,i1,j1,b1,p1,m1,z,F,hlo,rfl,hA,hF⟩:=qck hrd
 have HX3:=qac (HX.out.next hB3)
 have HLO:Hid (qaZ bs lim r r'):=hlo
 have HFE:Hid (∀f,r'=.error f→F=f):=hF
 have HA:Hid (∀dd q,r'=.ok (dd,q)→InR bs lim q∧z=(q:Int)∧F=(0,0)∧qbD k w3 (fun j=>W.heap.size+3≤j∧j<w3.heap.size) (.agg (thA kk nn s (.slice a1 i1 j1) (.slice b1 p1 m1))) dd):=fun dd q h=>⟨(hA dd q h).1,(hA dd q h).2.1,(hA dd q h).2.2.1,(hA dd q h).2.2.2.same (fun j hj=>⟨by have h2:=hj.1;have h3:=hsz #[.string ⟨bs.toArray⟩,.int .i64 fm,.int .i64 d,.int .i64 l];unfold th0 thA qaf qae at h3;simp only[World.size_alloc] at h2 h3;omega,hj.2⟩) (fun _ _=>rfl)⟩
 clear hrd hlo hF hA HCC hsz
 simp only[]
 go_wp2_with (first
  |((with_reducible refine zT 4 19 rfl rfl (W.heap.size+1) (thA kk nn s (.slice a1 i1 j1) (.slice b1 p1 m1)) ?_ ?_);exact⟨rfl,rfl,HX3.out.th,thg⟩)
  |((with_reducible refine zF 6 21 rfl rfl (W.heap.size+2) (F) ?_ ?_);exact⟨rfl,rfl,qan HX3.out bwR _⟩))
 have hf:=qao HX3.out bwR (thA kk nn s (.slice a1 i1 j1) (.slice b1 p1 m1)) (F)
 refine eoT results70 hf (.int .i64 z) rfl rfl rfl rfl ⟨hf.2.2,r',HLO.out,?_⟩
 cases r' with
 |error f =>
  obtain rfl:=HFE.out f rfl
  exact⟨_,_,_,_,_,_,_,_,_,_,rfl⟩
 |ok y =>
  obtain⟨dd,q⟩:=y
  obtain⟨hq,rfl,rfl,hA⟩:=HA.out dd q rfl
  refine⟨hq,_,_,_,_,_,_,_,_,_,rfl,hA.same (fun j hj=>⟨by have:=hj.1;omega,by simpa using hj.2⟩) (fun j hj => ?_)⟩
  rw[setRow_other _ _ _ _ (by omega),setRow_other _ _ _ _ (by omega)]
theorem qlb (W:World)(bs:List UInt8)(fm d l lim:Int)(i:Nat)(hfm:fm=1∨fm=2∨fm=3)(hl:Lm bs l lim)(hb:bs.length≤200000000)(hd0:0≤d)(hd2:d≤100000)(hi:InR bs lim i):Calls prog 70 #[.agg (inA bs fm d l),.int .i64 i] W (qa5 (d.toNat+1) bs lim W (thO fm bs d lim i)):=by
 have hdn:d<((0:Nat):Int)+((d.toNat+1:Nat):Int):=by omega
 rcases hfm with rfl|rfl|rfl
 ·refine qnH (d.toNat+1) W bs 1 d l lim i _ rfl (fun V => ?_)
  exact qfD ⟨none,bs,0,d,lim,0,0⟩ 1 l hl hb hd2 (d.toNat+1) 0 V i hd0 hdn hi
 ·refine qk6 (d.toNat+1) W bs 2 d l lim i _ (by decide) (fun V => ?_)
  exact(qln bs 2 d l lim (.inl rfl) hl hb hd2 (d.toNat+1) 0 V i hd0 hdn hi).mono fun e W' h=>qog h
 ·refine qk6 (d.toNat+1) W bs 3 d l lim i _ (by decide) (fun V => ?_)
  exact(qln bs 3 d l lim (.inr rfl) hl hb hd2 (d.toNat+1) 0 V i hd0 hdn hi).mono fun e W' h=>qog h
theorem qka (fm:Int)(W:World):Calls prog 148 #[.int .i64 fm] W fun e W'=>e=.returned (.int .u8 (qbi fm))∧W'=W:=by
 by_cases h:fm=1
 ·have e1:(fm==1)=true:=by simpa using h
  have hb:qbi fm=32:=by unfold qbi;rw[if_pos h]
  rw[hb]
  clear h hb
  go_enter func148,ntmps148
  go_wp2
  go_ret
  exact⟨rfl,rfl⟩
 ·have e1:(fm==1)=false:=by simpa using h
  have hb:qbi fm=0:=by unfold qbi;rw[if_neg h]
  rw[hb]
  clear h hb
  go_enter func148,ntmps148
  go_wp2
  go_ret
  exact⟨rfl,rfl⟩
theorem qiF (bs:List UInt8)(a b c:Int):(inA [] 0 0 0).size=(inA bs a b c).size:=rfl
theorem qkQ (bs:List UInt8)(a b c:Int):(inA bs a b c).all (·.oneCell')=true:=by simp[inA,Value.oneCell']
def UrV (r:Except Int (List UInt8)):Value:=match r with
 |.ok l=>.tuple #[.string ⟨l.toArray⟩,.int .i64 0]
 |.error en=>.tuple #[.string ⟨#[]⟩,.int .i64 en]
theorem qkr (W:World)(fm:Int)(bs:List UInt8)(hf:qkj fm=false):Calls prog 95 #[.int .i64 fm,.string ⟨bs.toArray⟩] W fun e W'=>e=.returned (UrV (.error 7))∧Below W.heap.size W W':=by
 have cF:∀V,Calls prog 44 #[.int .i64 fm] V fun e W'=>e=.returned (.bool false)∧V=W':=fun V=>(qcM fm V).mono fun e W' h=>⟨by rw[h.1,hf],h.2.symm⟩
 clear hf
 go_enter func95,ntmps95
 go_wp2_with (first
  |(go_at_call 44;refine(cF _).mono ?_;clear cF;rintro e w1 ⟨rfl,rfl⟩))
 go_ret2
 exact⟨rfl,Below.refl _ _⟩
theorem qiw (W:World)(fm:Int)(bs:List UInt8)(hf:qkj fm=true)(hl:65536<bs.length):Calls prog 95 #[.int .i64 fm,.string ⟨bs.toArray⟩] W fun e W'=>e=.returned (UrV (.error 7))∧Below W.heap.size W W':=by
 have cF:∀V,Calls prog 44 #[.int .i64 fm] V fun e W'=>e=.returned (.bool true)∧V=W':=fun V=>(qcM fm V).mono fun e W' h=>⟨by rw[h.1,hf],h.2.symm⟩
 have hsz:=qaS bs
 have hlt:(65536:Int)<(bs.length:Int):=by omega
 clear hf hl
 go_enter func95,ntmps95
 go_wp2_with (first
  |(go_at_call 44;refine(cF _).mono ?_;clear cF;rintro e w1 ⟨rfl,rfl⟩))
 go_ret2
 exact⟨rfl,Below.refl _ _⟩
theorem qj3 (W:World)(fm:Int)(bs:List UInt8)(hf:qkj fm=true)(hl:bs.length≤65536)(th:Except (Int×Int) (DataW Unit×Nat))(k:Nat)(cT:∀V,Calls prog 70 #[.agg (inA bs fm 16 ((bs.length:Int)+1)),.int .i64 0] V (qa5 k bs (bs.length:Int) V th))(f:Int×Int)(ht:th=.error f)(hne:(f.1==0)=false):Calls prog 95 #[.int .i64 fm,.string ⟨bs.toArray⟩] W fun e W'=>e=.returned (UrV (.error 9))∧Below W.heap.size W W':=by
 have cF:∀V,Calls prog 44 #[.int .i64 fm] V fun e W'=>e=.returned (.bool true)∧V=W':=fun V=>(qcM fm V).mono fun e W' h=>⟨by rw[h.1,hf],h.2.symm⟩
 have hsz:=qaS bs
 have hlt:¬(65536:Int)<(bs.length:Int):=by omega
 have HCT:Hid (∀V,Calls prog 70 #[.agg #[.string ⟨bs.toArray⟩,.int .i64 fm,.int .i64 16,.int .i64 ((bs.length:Int)+1)],.int .i64 0] V (qa5 k bs (bs.length:Int) V th)):=cT
 clear hf hl cT
 go_enter func95,ntmps95
 go_wp2_with (first
  |(go_at_call 44;refine(cF _).mono ?_;clear cF;rintro e w1 ⟨rfl,rfl⟩)
  |((with_reducible refine wpList_store_row rfl 143 (.tmp 6) (.tmp 24) rfl (W.heap.size) (inA bs fm 16 ((bs.length:Int)+1)) ?hx ?hy 143 (inA [] 0 0 0) ?hg ?hi ?hs ?h1 ?_);(case hx=>exact rfl);(case hy=>exact rfl);(case hg=>exact qab W _);(case hi=>exact qfc);(case hs=>exact qiF _ _ _ _);(case h1=>exact qkQ _ _ _ _);have HB0:Hid (Below W.heap.size W ((W.alloc (.cells #[.string ⟨#[]⟩,.int .i64 0,.int .i64 0,.int .i64 0] 143)).setRow W.heap.size (inA bs fm 16 ((bs.length:Int)+1)))):=qai bwA (Nat.le_refl _) _;have HI0:Hid (((W.alloc (.cells #[.string ⟨#[]⟩,.int .i64 0,.int .i64 0,.int .i64 0] 143)).setRow W.heap.size (inA bs fm 16 ((bs.length:Int)+1))).heap[W.heap.size]? = some (.cells (inA bs fm 16 ((bs.length:Int)+1)) 143)):=setRow_heap _ _ _ _ _ _ (qab W _);generalize (W.alloc (.cells #[.string ⟨#[]⟩,.int .i64 0,.int .i64 0,.int .i64 0] 143)).setRow W.heap.size (inA bs fm 16 ((bs.length:Int)+1))=V0 at *;obtain⟨c0,c1,c2,c3⟩:=qa3 HI0.out))
 refine(HCT.out _).mono ?_
 clear c0 c1 c2 c3
 rintro e w2 hrd
 obtain⟨hB2,r',kk,nn,s,a1,i1,j1,b1,p1,m1,z,F,hlo,rfl,hA,hF⟩:=qck hrd
 have hrr:r'=th:=by
  rcases hlo with h|⟨q,_,h2,h3,_⟩
  ·exact h.symm
  ·omega
 subst hrr
 have HB2:Hid (Below W.heap.size W w2):=HB0.out.trans (hB2.mono HB0.out.size)
 clear hlo hB2 hrd HCT HB0 HI0
 simp only[]
 obtain rfl:=hF f ht
 clear hA hF ht
 go_wp2_with (first
  |((with_reducible refine zT 7 28 rfl rfl (w2.heap.size) (thA kk nn s (.slice a1 i1 j1) (.slice b1 p1 m1)) ?_ ?_);exact⟨rfl,rfl,(qak w2 _ _).1,thg⟩)
  |((with_reducible refine zF 9 30 rfl rfl (w2.heap.size+1) F ?_ ?_);exact⟨rfl,rfl,sx (by omega) (qak w2 _ _).2⟩;refine nmd ?_;intro V5 EV5;have HB5:Hid (Below W.heap.size W V5):=EV5▸HB2.out.trans ((qar _ _ _ _ _).mono HB2.out.size);have HF5:Hid (V5.heap[w2.heap.size+1]? = some (.cells (qae F) 95)):=EV5▸qci;clear EV5;have u0:V5.cell? ⟨w2.heap.size+1,0,none⟩=some (.int .i64 (F.1)):=qaa HF5.out 0))
 go_ret2
 exact⟨rfl,HB5.out⟩
theorem qks (W:World)(fm:Int)(bs:List UInt8)(hf:qkj fm=true)(hl:bs.length≤65536)(th:Except (Int×Int) (DataW Unit×Nat))(k:Nat)(cT:∀V,Calls prog 70 #[.agg (inA bs fm 16 ((bs.length:Int)+1)),.int .i64 0] V (qa5 k bs (bs.length:Int) V th))(dd:DataW Unit)(n:Nat)(ht:th=.ok (dd,n)):Calls prog 95 #[.int .i64 fm,.string ⟨bs.toArray⟩] W fun e W'=>e=.returned (UrV (if (bs.drop n).all (fun c=>c.toNat==qbi fm)=true then Except.ok (bs.take n) else Except.error (9:Int)))∧Below W.heap.size W W':=by
 have cF:∀V,Calls prog 44 #[.int .i64 fm] V fun e W'=>e=.returned (.bool true)∧V=W':=fun V=>(qcM fm V).mono fun e W' h=>⟨by rw[h.1,hf],h.2.symm⟩
 have hsz:=qaS bs
 have hlt:¬(65536:Int)<(bs.length:Int):=by omega
 have HCT:Hid (∀V,Calls prog 70 #[.agg #[.string ⟨bs.toArray⟩,.int .i64 fm,.int .i64 16,.int .i64 ((bs.length:Int)+1)],.int .i64 0] V (qa5 k bs (bs.length:Int) V th)):=cT
 have cG:∀V,Calls prog 148 #[.int .i64 fm] V fun e W'=>e=.returned (.int .u8 (qbi fm))∧V=W':=fun V=>(qka fm V).mono fun e W' h=>⟨h.1,h.2.symm⟩
 obtain⟨R,HR⟩:∃R,Hid ((if (bs.drop n).all (fun c=>c.toNat==qbi fm)=true then Except.ok (bs.take n) else Except.error (9:Int))=R):=⟨_,show _=_ from rfl⟩
 rw[HR.out]
 clear hf hl cT
 go_enter func95,ntmps95
 go_wp2_with (first
  |(go_at_call 44;refine(cF _).mono ?_;clear cF;rintro e w1 ⟨rfl,rfl⟩)
  |((with_reducible refine wpList_store_row rfl 143 (.tmp 6) (.tmp 24) rfl (W.heap.size) (inA bs fm 16 ((bs.length:Int)+1)) ?hx ?hy 143 (inA [] 0 0 0) ?hg ?hi ?hs ?h1 ?_);(case hx=>exact rfl);(case hy=>exact rfl);(case hg=>exact qab W _);(case hi=>exact qfc);(case hs=>exact qiF _ _ _ _);(case h1=>exact qkQ _ _ _ _);have HB0:Hid (Below W.heap.size W ((W.alloc (.cells #[.string ⟨#[]⟩,.int .i64 0,.int .i64 0,.int .i64 0] 143)).setRow W.heap.size (inA bs fm 16 ((bs.length:Int)+1)))):=qai bwA (Nat.le_refl _) _;have HI0:Hid (((W.alloc (.cells #[.string ⟨#[]⟩,.int .i64 0,.int .i64 0,.int .i64 0] 143)).setRow W.heap.size (inA bs fm 16 ((bs.length:Int)+1))).heap[W.heap.size]? = some (.cells (inA bs fm 16 ((bs.length:Int)+1)) 143)):=setRow_heap _ _ _ _ _ _ (qab W _);generalize (W.alloc (.cells #[.string ⟨#[]⟩,.int .i64 0,.int .i64 0,.int .i64 0] 143)).setRow W.heap.size (inA bs fm 16 ((bs.length:Int)+1))=V0 at *;obtain⟨c0,c1,c2,c3⟩:=qa3 HI0.out))
 refine(HCT.out _).mono ?_
 clear c0 c1 c2 c3
 rintro e w2 hrd
 obtain⟨hB2,r',kk,nn,s,a1,i1,j1,b1,p1,m1,z,F,hlo,rfl,hA,hF⟩:=qck hrd
 have hrr:r'=th:=by
  rcases hlo with h|⟨q,_,h2,h3,_⟩
  ·exact h.symm
  ·omega
 subst hrr
 have HB2:Hid (Below W.heap.size W w2):=HB0.out.trans (hB2.mono HB0.out.size)
 clear hlo hB2 hrd HCT HB0 HI0
 simp only[]
 obtain⟨hqi,rfl,rfl,_⟩:=hA dd n ht
 have hnl:=hqi.1
 have HNL:Hid (n≤bs.length):=hnl
 clear hA hF ht hqi
 go_wp2_with (first
  |((with_reducible refine zT 7 28 rfl rfl (w2.heap.size) (thA kk nn s (.slice a1 i1 j1) (.slice b1 p1 m1)) ?_ ?_);exact⟨rfl,rfl,(qak w2 _ _).1,thg⟩)
  |((with_reducible refine zF 9 30 rfl rfl (w2.heap.size+1) (0,0) ?_ ?_);exact⟨rfl,rfl,sx (by omega) (qak w2 _ _).2⟩;refine nmd ?_;intro V5 EV5;have HB5:Hid (Below W.heap.size W V5):=EV5▸HB2.out.trans ((qar _ _ _ _ _).mono HB2.out.size);have HF5:Hid (V5.heap[w2.heap.size+1]? = some (.cells (qae (0,0)) 95)):=EV5▸qci;clear EV5;have u0:V5.cell? ⟨w2.heap.size+1,0,none⟩=some (.int .i64 (0)):=qaa HF5.out 0))
 go_loopg [10] (bs.length+1-n) (fun g z wr=>∃k:Nat,z=.int .i64 k∧Hid (bs.length+1≤k+g)∧Hid (n≤k)∧Hid (Below W.heap.size W wr)∧Hid (k≤bs.length)∧Hid ((if (bs.drop k).all (fun c=>c.toNat==qbi fm)=true then Except.ok (bs.take n) else Except.error (9:Int))=R))
 case atStart=>exact⟨n,rfl,by show _≤_;omega,Nat.le_refl _,HB5,HNL,HR⟩
 case round =>
  clear HR HB5 HF5 u0
  obtain⟨k',rfl,hg,hnk,HB,HKL,HR⟩:=hrel
  have hkl:=HKL.out
  by_cases hk:k'=bs.length
  ·have hge:¬(k':Int)<(bs.length:Int):=by omega
   have HE:Hid (R=.ok (bs.take n)):=by
    show _=_
    rw[←HR.out,hk,List.drop_length]
    rfl
   have hnl2:(n:Int)≤(bs.length:Int):=by omega
   have HEX:Hid ((⟨bs.toArray⟩:ByteArray).extract 0 n=⟨(bs.take n).toArray⟩):=by
    show _=_
    have h:=qf2 bs 0 n
    rw[Nat.zero_add] at h
    rw[h]
    simp[qaL]
   clear HR hg
   go_wp2
   go_ret2
   rw[HE.out]
   refine⟨?_,HB.out⟩
   first|(rw[HEX.out];rfl)|(simp only[HEX.out];rfl)
  ·have hkb:k'<bs.length:=by omega
   have hlt2:(k':Int)<(bs.length:Int):=by omega
   obtain⟨c,hc⟩:∃c,bs[k']? = some c:=⟨_,List.getElem?_eq_getElem hkb⟩
   have hix:=fun V=>qah bs k' c hc V
   have hdr:bs.drop k'=c::bs.drop (k'+1):=by
    rw[List.drop_eq_getElem_cons hkb,(List.getElem?_eq_some_iff.1 hc).2]
   have hst:=HR.out
   rw[hdr,List.all_cons] at hst
   by_cases hcf:c.toNat=qbi fm
   ·have hne:(((c.toNat:Int)) != ((qbi fm:Nat):Int))=false:=by simp;omega
    have HN:Hid ((if (bs.drop (k'+1)).all (fun c=>c.toNat==qbi fm)=true then Except.ok (bs.take n) else Except.error (9:Int))=R):=by
     show _=_
     rw[←hst,show(c.toNat==qbi fm)=true by simpa using hcf,Bool.true_and]
    clear hst hdr HR hc hcf
    go_wp2
    refine rgn (S:=fun _=>True) (trivial) (by kernel_rfl) ?_
    intro hS
    refine tkk 0 41 (.string ⟨bs.toArray⟩) (by kernel_rfl) iQ3 hS ?_
    refine tkk 1 42 ((.int .i64 (k':Int))) (by kernel_rfl) iQ3 hS ?_
    refine tk 2 43 (.int .u8 c.toNat) rfl (by kernel_rfl) iQ3 (fun Z hZ => ?y2) hS ?_
    case y2=>(go_simp)
    refine tkk 3 44 (.int .i64 fm) (by kernel_rfl) iQ3 hS ?_
    refine rdH 4 rfl (by kernel_rfl) (fun K hK => ?_)
    go_simp
    refine(cG _).mono ?_
    rintro e w9 ⟨rfl,rfl⟩
    simp only[]
    refine hK.out _ _ trivial (fun _ => ?_)
    clear hK
    refine tk 5 46 (.bool false) rfl (by kernel_rfl) iQ3 (fun Z hZ => ?y5) hS ?_
    case y5=>(go_simp)
    refine wpAnyH_done (by kernel_rfl) ?_ _
    go_simp
    go_wp2
    go_roundg (gk-1)
    case measure=>have:=hg.out;omega
    case rel=>exact⟨k'+1,by go_num,by show _≤_;have:=hg.out;omega,by show _≤_;have:=hnk.out;omega,HB.out.drew,hkb,HN⟩
   ·have hne:(((c.toNat:Int)) != ((qbi fm:Nat):Int))=true:=by simp;omega
    have HE:Hid (R=.error 9):=by
     show _=_
     rw[←hst,show(c.toNat==qbi fm)=false by simpa using hcf,Bool.false_and]
     rfl
    clear hst hdr HR hc hcf hg
    go_wp2
    refine rgn (S:=fun _=>True) (trivial) (by kernel_rfl) ?_
    intro hS
    refine tkk 0 41 (.string ⟨bs.toArray⟩) (by kernel_rfl) iQ3 hS ?_
    refine tkk 1 42 ((.int .i64 (k':Int))) (by kernel_rfl) iQ3 hS ?_
    refine tk 2 43 (.int .u8 c.toNat) rfl (by kernel_rfl) iQ3 (fun Z hZ => ?y2) hS ?_
    case y2=>(go_simp)
    refine tkk 3 44 (.int .i64 fm) (by kernel_rfl) iQ3 hS ?_
    refine rdH 4 rfl (by kernel_rfl) (fun K hK => ?_)
    go_simp
    refine(cG _).mono ?_
    rintro e w9 ⟨rfl,rfl⟩
    simp only[]
    refine hK.out _ _ trivial (fun _ => ?_)
    clear hK
    refine tk 5 46 (.bool true) rfl (by kernel_rfl) iQ3 (fun Z hZ => ?y5) hS ?_
    case y5=>(go_simp)
    refine wpAnyH_done (by kernel_rfl) ?_ _
    go_simp
    go_wp2
    go_ret2
    rw[HE.out]
    exact⟨rfl,HB.out.drew⟩
theorem qjY (W:World)(fm:Int)(bs:List UInt8):Calls prog 95 #[.int .i64 fm,.string ⟨bs.toArray⟩] W fun e W'=>e=.returned (UrV (qkk fm bs))∧Below W.heap.size W W':=by
 unfold qkk
 cases hf:qkj fm with
 |false =>
  rw[if_neg (fun h=>by cases h.1)]
  exact qkr W fm bs hf
 |true =>
  by_cases hl:bs.length≤65536
  ·rw[if_pos ⟨rfl,hl⟩]
   have hfm:fm=1∨fm=2∨fm=3:=by
    unfold qkj at hf
    simp at hf
    omega
   have hLm:Lm bs ((bs.length:Int)+1) (bs.length:Int):=fun p hp=>by omega
   have cT:∀V,Calls prog 70 #[.agg (inA bs fm 16 ((bs.length:Int)+1)),.int .i64 0] V (qa5 17 bs (bs.length:Int) V (thO fm bs 16 (bs.length:Int) 0)):=fun V=>qlb V bs fm 16 _ _ 0 hfm hLm (by omega) (by decide) (by decide) ⟨Nat.zero_le _,by omega⟩
   have hbad:=qja fm bs 16 (bs.length:Int) (by decide)
   unfold qe4 at hbad ⊢
   cases ht:thO fm bs 16 (bs.length:Int) 0 with
   |error f =>
    rw[ht] at cT hbad
    exact qj3 W fm bs hf hl _ 17 cT f rfl (by have:=hbad f.1 f.2 rfl;simpa using this)
   |ok y =>
    obtain⟨dd,n⟩:=y
    rw[ht] at cT
    exact qks W fm bs hf hl _ 17 cT dd n rfl
  ·rw[if_neg (fun h=>hl h.2)]
   exact qiw W fm bs hf (by omega)
end
end Go.Proofs.YtllcbnfmihfaaaaGreatDoor
