import Derived.Test.YtllcbnfmihfaaaaGreatDoorTq30
import Derived.Test.YtllcbnfmihfaaaaGreatDoorTq32
set_option maxRecDepth 100000
set_option maxHeartbeats 8000000
namespace Go.Proofs.YtllcbnfmihfaaaaGreatDoor
open Go.Proofs.Tryz
variable {V W:World}{v:Value}{l:List UInt8}
section
open Go.RowKit Go.Lib
structure q48 (V:World)(B:Nat)(la:Option Addr)(N lcap:Nat)(xs:List Value)(mc:Nat→Nat):Prop where
 w2:V.cell? ⟨B,2,none⟩=some (.slice la N lcap)
 len:xs.length=N
 row:∀(i:Nat) (v:Value),xs[i]? = some v→∃gr,la=some ⟨gr,0,none⟩∧V.cell? ⟨gr,i,none⟩=some v
 all:∀(i:Nat) (v:Value),xs[i]? = some v→q1c V v (.int .u8 (mc i)) 0
structure qzo (W V:World):Prop where
 heap:V.heap=W.heap
 os:V.os=W.os
 tape:V.tape=W.tape
 output:V.output=W.output
theorem qzo.refl (W:World):qzo W W:=⟨rfl,rfl,rfl,rfl⟩
theorem qzo.drew (h:qzo W V):qzo W V.drew:=⟨h.heap,h.os,h.tape,h.output⟩
theorem qzo.below (h:qzo W V):Below W.heap.size W V:=⟨h.os,h.tape,h.output,by rw[h.heap];exact Nat.le_refl _,fun j _=>by rw[h.heap]⟩
theorem qzo.cell (h:qzo W V)(a:Addr):V.cell? a=W.cell? a:=World.cell?_of_block (by rw[h.heap])
theorem qzV (h:V.heap=W.heap)(a:Addr):V.cell? a=W.cell? a:=World.cell?_of_block (by rw[h])
theorem q48.at_ {B:Nat}{la:Option Addr}{N lcap:Nat}{xs:List Value}{mc:Nat→Nat}(h:q48 V B la N lcap xs mc){i:Nat}(hi:i<N):∃gr a n cap,la=some ⟨gr,0,none⟩∧V.cell? ⟨gr,i,none⟩=some (.slice a n cap)∧xs[i]? = some (.slice a n cap)∧∀j,j<n→∃g,a=some ⟨g,0,none⟩∧V.cell? ⟨g,j,none⟩=some (.int .u8 (mc i)):=by
 obtain⟨v,hv⟩:∃v,xs[i]? = some v:=⟨_,List.getElem?_eq_getElem (by rw[h.len];exact hi)⟩
 obtain⟨gr,e1,e2⟩:=h.row i v hv;obtain⟨a,n,cap,rfl,h3⟩:=h.all i v hv;refine⟨gr,a,n,cap,e1,e2,hv,fun j hj => ?_⟩;rcases h3 with h3|⟨g,cur,h4,_,h5,h6,h7⟩
 ·omega
 exact⟨g,h4,(qab h5 j).trans (h7 j hj)⟩
theorem q3T (W:World)(B:Nat)(la:Option Addr)(N lcap:Nat)(xs:List Value)(h:q48 W B la N lcap xs mkN)(hN:N≤1000000000)(hbig:∀(i:Nat) (a:Option Addr) (n c:Nat),xs[i]? = some (Value.slice a n c)→n≤1000000000):Calls prog 36 #[.pointer (some ⟨B,0,none⟩)] W fun e W'=>e=.returned (.bool true)∧qzo W W':=by
 have HL:=qaa h;have HBG:=qaa hbig;have hw2:=h.w2;go_enter func36,ntmps36;go_wp2
 go_loopg [3] N (fun g z wr=>∃i:Nat,z=.int .i64 i∧Hid (i+g=N)∧Hid (qzo W wr))
 case atStart=>exact⟨0,rfl,by show _=_;omega,qzo.refl _⟩
 case round =>
  obtain⟨i,rfl,hg,HS⟩:=hrel;have w2:=(HS.out.cell _).trans hw2
  cases gk with
  |zero =>
   have hge:¬(i:Int)<(N:Int):=by have:=hg.out;omega
   go_wp2;go_ret;exact⟨rfl,HS.out⟩
  |succ g =>
   have hlt:(i:Int)<(N:Int):=by have:=hg.out;omega
   obtain⟨gr,a,n,cap,rfl,hr1,hx,hby⟩:=HL.out.at_ (i:=i) (by omega);have hnb:=HBG.out i a n cap hx;have HBY:Hid (∀j,j<n→∃g,a=some ⟨g,0,none⟩∧W.cell? ⟨g,j,none⟩=some (.int .u8 (mkN i))):=hby;have cM:∀V,Calls prog 61 #[.int .i64 i] V fun e W'=>e=.returned (.int .u8 (mkN i))∧V=W':=fun V=>(qzF i (by omega) V).mono fun e W' h=>⟨h.1,h.2.symm⟩
   have w2:=(HS.out.cell _).trans hw2;have r1:=(HS.out.cell _).trans hr1;go_wp2
   go_loopg [4] n (fun gj zj wj=>∃j:Nat,zj=.int .i64 j∧Hid (j+gj=n)∧Hid (qzo W wj))
   case atStart=>exact⟨0,rfl,by show _=_;omega,HS⟩
   case round =>
    obtain⟨j,rfl,hgj,HSj⟩:=hrel;have w2:=(HSj.out.cell _).trans hw2;have r1:=(HSj.out.cell _).trans hr1
    cases gk with
    |zero =>
     have hgej:¬(j:Int)<(n:Int):=by have:=hgj.out;omega
     go_wp2;go_roundg g
     case measure=>omega
     case rel=>exact⟨i+1,by go_num,by show _=_;have:=hg.out;omega,HSj⟩
    |succ gj =>
     have hltj:(j:Int)<(n:Int):=by have:=hgj.out;omega
     obtain⟨gb,rfl,hb⟩:=HBY.out j (by omega);go_wp2;refine rgn (S:=fun Z=>Z.heap=W.heap) (HSj.out.heap) (by kernel_rfl) ?_;intro hS;refine qzf (i:=0) (v:=.pointer (some ⟨B,0,none⟩)) (some 26) rfl (by kernel_rfl) (by kernel_rfl) (by kernel_rfl) (fun _ _ _ h=>h) (by kernel_rfl) (.inl ⟨by kernel_rfl,fun Z hZ=>(by kernel_rfl)⟩) hS ?_;refine qzf (i:=1) (v:=.pointer (some ⟨B,0,none⟩)) (some 27) rfl (by kernel_rfl) (by kernel_rfl) (by kernel_rfl) (fun _ _ _ h=>h) (by kernel_rfl) (.inl ⟨by kernel_rfl,fun Z hZ => ?y1⟩) hS ?_
     case y1=>(go_simp)
     refine qzf (i:=2) (v:=.pointer (some ⟨B,2,none⟩)) (some 28) rfl (by kernel_rfl) (by kernel_rfl) (by kernel_rfl) (fun _ _ _ h=>h) (by kernel_rfl) (.inl ⟨by kernel_rfl,fun Z hZ => ?y2⟩) hS ?_
     case y2=>(go_simp)
     refine qzf (i:=3) (v:=.slice (some ⟨gr,0,none⟩) N lcap) (some 29) rfl (by kernel_rfl) (by kernel_rfl) (by kernel_rfl) (fun _ _ _ h=>h) (by kernel_rfl) (.inl ⟨by kernel_rfl,fun Z hZ => ?y3⟩) hS ?_
     case y3=>(have hz:=(qzV hZ _).trans hw2;go_simp)
     refine qzf (i:=4) (v:=.int .i64 i) (some 30) rfl (by kernel_rfl) (by kernel_rfl) (by kernel_rfl) (fun _ _ _ h=>h) (by kernel_rfl) (.inl ⟨by kernel_rfl,fun Z hZ=>(by kernel_rfl)⟩) hS ?_;refine qzf (i:=5) (v:=.pointer (some ⟨gr,i,none⟩)) (some 31) rfl (by kernel_rfl) (by kernel_rfl) (by kernel_rfl) (fun _ _ _ h=>h) (by kernel_rfl) (.inl ⟨by kernel_rfl,fun Z hZ => ?y5⟩) hS ?_
     case y5=>(go_simp)
     refine qzf (i:=6) (v:=.slice (some ⟨gb,0,none⟩) n cap) (some 32) rfl (by kernel_rfl) (by kernel_rfl) (by kernel_rfl) (fun _ _ _ h=>h) (by kernel_rfl) (.inl ⟨by kernel_rfl,fun Z hZ => ?y6⟩) hS ?_
     case y6=>(have hz:=(qzV hZ _).trans hr1;go_simp)
     refine qzf (i:=7) (v:=.int .i64 j) (some 33) rfl (by kernel_rfl) (by kernel_rfl) (by kernel_rfl) (fun _ _ _ h=>h) (by kernel_rfl) (.inl ⟨by kernel_rfl,fun Z hZ=>(by kernel_rfl)⟩) hS ?_;refine qzf (i:=8) (v:=.pointer (some ⟨gb,j,none⟩)) (some 34) rfl (by kernel_rfl) (by kernel_rfl) (by kernel_rfl) (fun _ _ _ h=>h) (by kernel_rfl) (.inl ⟨by kernel_rfl,fun Z hZ => ?y8⟩) hS ?_
     case y8=>(go_simp)
     refine qzf (i:=9) (v:=.int .u8 (mkN i)) (some 35) rfl (by kernel_rfl) (by kernel_rfl) (by kernel_rfl) (fun _ _ _ h=>h) (by kernel_rfl) (.inl ⟨by kernel_rfl,fun Z hZ => ?y9⟩) hS ?_
     case y9=>(have hz:=(qzV hZ _).trans hb;go_simp)
     refine qzf (i:=10) (v:=.int .i64 i) (some 36) rfl (by kernel_rfl) (by kernel_rfl) (by kernel_rfl) (fun _ _ _ h=>h) (by kernel_rfl) (.inl ⟨by kernel_rfl,fun Z hZ=>(by kernel_rfl)⟩) hS ?_;refine rdH 11 rfl (by kernel_rfl) (fun K hK => ?_);go_simp;refine(cM _).mono ?_;rintro e w9 ⟨rfl,rfl⟩;simp only[];refine hK.out _ _ hS (fun _ => ?_);refine qzf (i:=12) (v:=.bool false) (some 38) rfl (by kernel_rfl) (by kernel_rfl) (by kernel_rfl) (fun _ _ _ h=>h) (by kernel_rfl) (.inl ⟨by kernel_rfl,fun Z hZ => ?y12⟩) hS ?_
     case y12=>(go_simp)
     refine wpAnyH_done (by kernel_rfl) ?_ _;go_simp;go_wp2;go_roundg gj
     case measure=>omega
     case rel=>exact⟨j+1,by go_num,by show _=_;have:=hgj.out;omega,HSj.out.drew⟩
structure QAt (W:World)(v:Value)(cur:List UInt8)(V:World):Prop where
 own:Own V W.heap.size v cur
 below:Below W.heap.size W V
theorem QAt.app {V':World}{v':Value}{cur:List UInt8}(h:QAt W v cur V)(ho:Own V' W.heap.size v' (cur++l))(hb:Below W.heap.size V V'):QAt W v' (cur++l) V':=⟨ho,h.below.trans hb⟩
theorem q4P {b:Nat}(h:Own W b v l):Own {W with drawn:=W.drawn+1} b v l:=h
theorem q1p (W:World)(l:List UInt8)(hl:l.length≤150000000):Calls prog 118 #[.string ⟨l.toArray⟩] W (WrS (qT l) W):=by
 obtain⟨R,HR⟩:∃R,Hid (qT l=R):=⟨_,show _=_ from rfl⟩
 rw[HR.out];have HQ0:Hid (QAt W (.slice (some ⟨W.heap.size,0,none⟩) 1 1) [34] (W.alloc (.cells #[.int .u8 34] 5))):=by
  refine⟨⟨⟨rfl,.inr ⟨W.heap.size,1,#[.int .u8 34],rfl,Nat.le_refl _,qac _ _,Nat.le_refl _,by decide,rfl,rfl⟩⟩,by simp,_,_,_,rfl⟩,bwA⟩
 go_enter func118,ntmps118;go_wp2
 go_loopg [3,4] l.length (fun g zv zi wr=>∃(i:Nat) (a:Option Addr) (n c:Nat) (cur:List UInt8),zv=.slice a n c∧zi=.int .i64 i∧Hid (i+g=l.length)∧Hid (cur=[34]++(l.take i).flatMap qB)∧Hid (QAt W (.slice a n c) cur wr))
 case atStart=>exact⟨0,_,_,_,[34],rfl,rfl,by show _=_;omega,rfl,HQ0⟩
 case round =>
  obtain⟨i,a,n,c,cur,rfl,rfl,hg,hcur,HX⟩:=hrel;have hcl:cur.length≤6*i+1:=by
   rw[hcur.out,List.length_append];have:=q4h (l.take i);rw[List.length_take] at this;show 1+_≤_;omega
  have hil:i≤l.length:=by have:=hg.out;omega
  cases gk with
  |zero =>
   have hlt:¬(i:Int)<(l.length:Int):=by have:=hg.out;omega
   have HE:Hid (cur++[34]=R):=by
    show _=_;rw[←HR.out,hcur.out,List.take_of_length_le (by have:=hg.out;omega)];rfl
   go_wp2_with (first|(at_builtin;refine q7a W.heap.size 53 54 _ cur [34] _ rfl rfl rfl rfl rfl HX.out.own (by simp;omega) (by decide) ?_;intro a' n' c' w5 HO5 HB5;have hcv:=q4G HO5 (by simp);rw[HE.out] at hcv;have HX5:=qaa (HX.out.app HO5 HB5)))
   go_ret;exact⟨rfl,HX5.out.below⟩
  |succ g =>
   have hlt:(i:Int)<(l.length:Int):=by have:=hg.out;omega
   obtain⟨b,hb⟩:∃b,l[i]? = some b:=⟨_,List.getElem?_eq_getElem (by have:=hg.out;omega)⟩
   have hix:=qxH l i b hb;have HN:Hid (cur++qB b=[34]++(l.take (i+1)).flatMap qB):=by show _=_;rw[qyr qB l i b hb,hcur.out,List.append_assoc]
   by_cases h1:b.toNat=34∨b.toNat=92
   ·have HN2:Hid (cur++[92,b]=[34]++(l.take (i+1)).flatMap qB):=by show _=_;rw[←HN.out];unfold qB;rw[if_pos h1]
    have d:(((b.toNat:Int)==34)=true)∨(((b.toNat:Int)==34)=false∧((b.toNat:Int)==92)=true):=by
     rcases h1 with h|h
     ·exact .inl (by simp;omega)
     exact .inr ⟨by simp;omega,by simp;omega⟩
    rcases d with d1|⟨d1,d2⟩
    all_goals
     go_wp2_with (first|(at_builtin;refine q7a W.heap.size 29 33 _ cur [92,b] _ rfl rfl rfl rfl rfl HX.out.own (by simp;omega) (by simp) ?_;intro a' n' c' w5 HO5 HB5;have HX5:=qaa (HX.out.app HO5 HB5)))
     go_roundg g
     case measure=>omega
     case rel=>exact⟨i+1,_,_,_,_,rfl,by go_num,by show _=_;have:=hg.out;omega,HN2,HX5⟩
   have d1:((b.toNat:Int)==34)=false:=by simp;omega
   have d2:((b.toNat:Int)==92)=false:=by simp;omega
   by_cases h2:b.toNat<32
   ·have HN2:Hid (cur++[92,117,48,48,qfU (b.toNat / 16),qfU (b.toNat%16)]=[34]++(l.take (i+1)).flatMap qB):=by show _=_;rw[←HN.out];unfold qB;rw[if_neg h1,if_pos h2]
    have d3:(b.toNat:Int)<32:=by omega
    have HD:Hid (IntKind.u8.wrap ((b.toNat:Int).tdiv 16)=((b.toNat / 16:Nat):Int)):=by show _=_;rw[Int.tdiv_eq_ediv_of_nonneg (by omega),w8 _ (by omega)];omega
    have HM:Hid ((b.toNat:Int).tmod 16=(b.toNat:Int)%16):=Int.tmod_eq_emod_of_nonneg (by omega);have HI:=qaa hix;have H1:=qaa (fun V=>q3I (b.toNat / 16) (by omega) V);have H2:=qaa (fun V=>q3I (b.toNat%16) (by omega) V)
    go_wp2_with fail
    refine rgn (S:=fun _=>True) trivial (by kernel_rfl) ?_;intro hS;refine tkk 0 40 (.slice a n c) (by kernel_rfl) iQ3 hS ?_;refine tkk 1 41 (.string ⟨l.toArray⟩) (by kernel_rfl) iQ3 hS ?_;refine tkk 2 42 (.int .i64 i) (by kernel_rfl) iQ3 hS ?_;refine tk 3 43 (.int .u8 b.toNat) rfl (by kernel_rfl) iQ3 (fun Z _=>qlX 9 (.tmp 41) (.tmp 42) rfl (by kernel_rfl) (by kernel_rfl) (HI.out Z)) hS ?_;refine tk 4 44 (.int .u8 ((b.toNat / 16:Nat):Int)) rfl (by kernel_rfl) iQ3 (fun Z _ => ?y1) hS ?_
    case y1=>(go_simp<;>exact HD.out)
    refine tk 5 45 (.int .u8 (qfU (b.toNat / 16)).toNat) rfl (by kernel_rfl) iQ3 (fun Z _=>qlX 9 (.const (.string ⟨#[48,49,50,51,52,53,54,55,56,57,97,98,99,100,101,102]⟩)) (.tmp 44) rfl (by kernel_rfl) (by kernel_rfl) (H1.out Z)) hS ?_;refine tkk 6 46 (.string ⟨l.toArray⟩) (by kernel_rfl) iQ3 hS ?_;refine tkk 7 47 (.int .i64 i) (by kernel_rfl) iQ3 hS ?_;refine tk 8 48 (.int .u8 b.toNat) rfl (by kernel_rfl) iQ3 (fun Z _=>qlX 9 (.tmp 46) (.tmp 47) rfl (by kernel_rfl) (by kernel_rfl) (HI.out Z)) hS ?_;refine tk 9 49 (.int .u8 ((b.toNat%16:Nat):Int)) rfl (by kernel_rfl) iQ3 (fun Z _ => ?y2) hS ?_
    case y2=>(go_simp<;>exact HM.out)
    refine tk 10 50 (.int .u8 (qfU (b.toNat%16)).toNat) rfl (by kernel_rfl) iQ3 (fun Z _=>qlX 9 (.const (.string ⟨#[48,49,50,51,52,53,54,55,56,57,97,98,99,100,101,102]⟩)) (.tmp 49) rfl (by kernel_rfl) (by kernel_rfl) (H2.out Z)) hS ?_;generalize qfU (b.toNat / 16)=x1 at *;generalize qfU (b.toNat%16)=x2 at *;refine rdH 11 rfl (by kernel_rfl) (fun K hK => ?_);go_simp;refine hK.out _ _ hS (fun _ => ?_);refine rdH 12 rfl (by kernel_rfl) (fun K hK => ?_);rw[if_pos (by kernel_rfl)];refine opU W.heap.size 40 51 _ cur [92,117,48,48,x1,x2] _ rfl rfl rfl rfl (q4P HX.out.own) (by simp;omega) (by simp) ?_;intro a' n' c' w5 HO5 HB5;refine hK.out _ _ hS (fun _ => ?_);refine tkk 13 3 (.slice a' n' c') (by kernel_rfl) iQ3 hS ?_;refine wpAnyH_done (by kernel_rfl) ?_ _;have HX5:Hid (QAt W (.slice a' n' c') (cur++[92,117,48,48,x1,x2]) w5):=⟨HO5,HX.out.below.drew.trans HB5⟩
    go_wp2;go_roundg g
    case measure=>omega
    case rel=>exact⟨i+1,_,_,_,_,rfl,by go_num,by show _=_;have:=hg.out;omega,HN2,HX5⟩
   have HN2:Hid (cur++[b]=[34]++(l.take (i+1)).flatMap qB):=by show _=_;rw[←HN.out];unfold qB;rw[if_neg h1,if_neg h2]
   have d3:¬(b.toNat:Int)<32:=by omega
   go_wp2_with (first|(at_builtin;refine q7a W.heap.size 12 16 _ cur [b] _ rfl rfl rfl rfl rfl HX.out.own (by simp;omega) (by simp) ?_;intro a' n' c' w5 HO5 HB5;have HX5:=qaa (HX.out.app HO5 HB5)))
   go_roundg g
   case measure=>omega
   case rel=>exact⟨i+1,_,_,_,_,rfl,by go_num,by show _=_;have:=hg.out;omega,HN2,HX5⟩
theorem q6X (x:Nat)(h:x≤9):(UInt8.ofNat (48+x)).toNat=48+x:=u8n _ (by omega)
theorem q07 (z:Int)(h1 : -9≤z)(h2:z≤9)(W:World):Calls prog 117 #[.int .i64 z] W (WrS (Lib.itoa z) W):=by
 have d1:decide (-9≤z)=true:=by simpa using h1
 have d2:decide (z≤9)=true:=by simpa using h2
 by_cases hz:z<0
 ·have d3:decide (z<0)=true:=by simpa using hz
  obtain⟨b,hb⟩:∃b,UInt8.ofNat (48+z.natAbs)=b:=⟨_,rfl⟩
  have hc:=qyI W (wrap64 (48-z)%256) b (by rw[←hb,q6X _ (by omega)];unfold wrap64;omega);have HI:Hid (Lib.itoa z=[45,b]):=by
   show _=_;unfold Lib.itoa;rw[if_pos hz,Lib.decDigits,dif_pos (by omega),hb]
  clear h1 h2 hz hb;go_enter func117,ntmps117;go_wp2;go_ret;unfold WrS;rw[HI.out];exact⟨rfl,bwA⟩
 have d3:decide (z<0)=false:=by simpa using hz
 obtain⟨b,hb⟩:∃b,UInt8.ofNat (48+z.toNat)=b:=⟨_,rfl⟩
 have hc:=qyI W (wrap64 (48+z)%256) b (by rw[←hb,q6X _ (by omega)];unfold wrap64;omega);have HI:Hid (Lib.itoa z=[b]):=by
  show _=_;unfold Lib.itoa;rw[if_neg hz,Lib.decDigits,dif_pos (by omega),hb]
 clear h1 h2 hz hb;go_enter func117,ntmps117;go_wp2;go_ret;unfold WrS;rw[HI.out];exact⟨rfl,bwA⟩
theorem q3v (z:Int)(h:9<z∨z < -9):Lib.itoa z=Lib.itoa (z.tdiv 10)++[UInt8.ofNat (48+z.natAbs%10)]:=by
 rcases h with h|h
 ·have e:z.tdiv 10=z / 10:=by rw[Int.tdiv_eq_ediv_of_nonneg (by omega)]
  rw[e];unfold Lib.itoa;rw[if_neg (by omega),if_neg (by omega),Lib.decDigits,dif_neg (by omega),show z.toNat / 10=(z / 10).toNat by omega,show z.natAbs=z.toNat by omega]
 have e:z.tdiv 10 = -((-z) / 10):=by
  rw[show z = -(-z) by omega,Int.neg_tdiv,Int.tdiv_eq_ediv_of_nonneg (by omega)];simp
 rw[e];unfold Lib.itoa;rw[if_pos (by omega),if_pos (by omega),Lib.decDigits,dif_neg (by omega),show z.natAbs / 10=(-(-z / 10)).natAbs by omega];rfl
theorem q59 (z:Int):z.tdiv 10=if 0≤z then z / 10 else -(-z / 10):=by
 split
 ·rw[Int.tdiv_eq_ediv_of_nonneg (by omega)]
 rw[show z = -(-z) by omega,Int.neg_tdiv,Int.tdiv_eq_ediv_of_nonneg (by omega)];simp
theorem q4l (z:Int)(hz:9<z∨z < -9)(h1 : -9223372036854775808≤z)(h2:z≤9223372036854775807)(W:World)(ih:∀V,Calls prog 117 #[.int .i64 (z.tdiv 10)] V (WrS (Lib.itoa (z.tdiv 10)) V)):Calls prog 117 #[.int .i64 z] W (WrS (Lib.itoa z) W):=by
 obtain⟨m,hm⟩:∃m:Nat,z.natAbs%10=m:=⟨_,rfl⟩
 have hm9:m≤9:=by omega
 obtain⟨b,hb⟩:∃b,UInt8.ofNat (48+m)=b:=⟨_,rfl⟩
 have HBV:Hid ((b.toNat:Int)=48+m):=by show _=_;rw[←hb,q6X _ (by omega)];omega
 have HI:Hid (Lib.itoa z=Lib.itoa (z.tdiv 10)++[b]):=by show _=_;rw[q3v z hz,hm,hb]
 have hq:=q59 z;have hr:z.tmod 10=z-10*z.tdiv 10:=by have:=Int.mul_tdiv_add_tmod z 10;omega
 have HL:Hid ((Lib.itoa (z.tdiv 10)).length≤21):=Lib.itoa_length_le _ (by rw[hq];split<;>omega) (by rw[hq];split<;>omega);have HWQ:Hid (IntKind.i64.wrap (z.tdiv 10)=z.tdiv 10):=w64 _ (by rw[hq];split<;>omega);have HW1:Hid (IntKind.i64.wrap (48+(m:Int))=b.toNat):=by show _=_;rw[HBV.out];exact w64 _ (by omega)
 have HW2:Hid (IntKind.u8.wrap (b.toNat:Int)=b.toNat):=w8 _ (by have:=b.toNat_lt;omega);have HS:Hid ((9<z∧z.tmod 10=m)∨(z < -9∧z.tmod 10 = -(m:Int)∧0<m)∨(z < -9∧z.tmod 10=m∧m=0)):=by
  show _∨_;rw[hr,hq];by_cases h0:0≤z
  ·rw[if_pos h0];omega
  rw[if_neg h0];omega
 obtain⟨cc,HCC⟩:∃cc,Hid (Lib.itoa (z.tdiv 10)++[b]=cc):=⟨_,show _=_ from rfl⟩
 rw[HI.out,HCC.out];have hsz:¬((Lib.itoa (z.tdiv 10)).length+1>9223372036854775807):=by have:=HL.out;omega
 have d:(decide (-9≤z)=true∧decide (z≤9)=false∧z.tmod 10=m∧decide ((m:Int)<0)=false)∨(decide (-9≤z)=false∧z.tmod 10 = -(m:Int)∧decide (-(m:Int)<0)=true∧decide (0<m)=true)∨(decide (-9≤z)=false∧z.tmod 10=m∧decide ((m:Int)<0)=false):=by
  rcases HS.out with ⟨g1,g2⟩|⟨g1,g2,g3⟩|⟨g1,g2,g3⟩
  ·exact .inl ⟨by simp;omega,by simp;omega,g2,by simp⟩
  ·exact .inr (.inl ⟨by simp;omega,g2,by simp;omega,by simp;omega⟩)
  exact .inr (.inr ⟨by simp;omega,g2,by simp⟩)
 clear hq hr hb hm h1 h2 hz HS HL HI;rcases d with ⟨d1,d2,g2,d3⟩|⟨d1,g2,d3,d4⟩|⟨d1,g2,d3⟩
 all_goals
  go_enter func117,ntmps117
  go_wp2_with fail
  refine rgn (S:=fun _=>True) trivial (by kernel_rfl) ?_;intro hS;refine tkk 0 29 (.int .i64 z) (by kernel_rfl) iQ3 hS ?_;refine tk 1 30 (.int .i64 (z.tdiv 10)) rfl (by kernel_rfl) iQ3 (fun Z _ => ?y1) hS ?_
  case y1=>(go_simp<;>exact HWQ.out)
  refine tkk 3 32 (.int .i64 m) (by kernel_rfl) iQ3 hS ?_;refine tk 4 33 (.int .i64 b.toNat) rfl (by kernel_rfl) iQ3 (fun Z _ => ?y2) hS ?_
  case y2=>(go_simp<;>exact HW1.out)
  refine tk 5 34 (.int .u8 b.toNat) rfl (by kernel_rfl) iQ3 (fun Z _ => ?y3) hS ?_
  case y3=>(go_simp<;>exact HW2.out)
  generalize z.tdiv 10=q at *;refine tri 2 6 7 31 35 36 117 (qxX (Lib.itoa q)) b ⟨rfl,rfl,rfl⟩ rfl (by kernel_rfl) (fun _ _ _=>⟨by kernel_rfl,by kernel_rfl,by kernel_rfl⟩) (fun _=>⟨by kernel_rfl,by kernel_rfl⟩) ih (fun _ _=>trivial) (fun V y hB => ?_);refine tk 8 37 (qxX cc) rfl (by kernel_rfl) iQ3 (fun Z _ => ?y5) hS ?_
  case y5=>(unfold qxX;go_simp;rw[←HCC.out];exact qxF _ [b])
  refine tkk 9 2 (qxX cc) (by kernel_rfl) iQ3 hS ?_;refine wpAnyH_done (by kernel_rfl) ?_ _;go_wp2;go_ret;exact⟨by kernel_rfl,(bwR (w:=W)).drew.trans hB⟩
theorem q2s:∀(n:Nat) (z:Int),z.natAbs≤n → -9223372036854775808≤z→z≤9223372036854775807→∀W,Calls prog 117 #[.int .i64 z] W (WrS (Lib.itoa z) W)
 |0,z,h,_,_,W=>q07 z (by omega) (by omega) W
 |n+1,z,h,h1,h2,W=>by
  by_cases hs : -9≤z∧z≤9
  ·exact q07 z hs.1 hs.2 W
  refine q4l z (by omega) h1 h2 W (fun V=>q2s n (z.tdiv 10) ?_ ?_ ?_ V)
  all_goals (rw[q59];split<;>omega)
theorem q6W (n:Nat)(h:¬n<32)(h2:n<4294967296):qa2 n=UInt8.ofNat (217+ixN n)::beF n (2^ixN n):=by
 unfold qa2 ixN;rw[if_neg h];by_cases a:n<256
 ·rw[if_pos (by omega),if_pos a];rfl
 rw[if_neg (by omega),if_neg a];by_cases b:n<65536
 ·rw[if_pos (by omega),if_pos b];rfl
 rw[if_neg (by omega),if_neg b,if_pos h2];rfl
theorem qz4 (W:World)(n:Nat)(hn:n<4294967296):Calls prog 121 #[.int .i64 n] W fun e W'=>e=.returned (qxX (qa2 n))∧Below W.heap.size W W':=by
 by_cases h24:n<32
 ·obtain⟨u,hu⟩:∃u,UInt8.ofNat (160+n)=u:=⟨_,rfl⟩
  have HE:Hid (qa2 n=[u]):=by show _=_;unfold qa2;rw[if_pos h24,hu]
  rw[HE.out];have hc:=qyI W (160+(n:Int)) u (by rw[←hu,u8n _ (by omega)];omega);have hlt:(n:Int)<32:=by omega
  go_enter func121,ntmps121;go_wp2;go_ret;exact⟨rfl,bwA⟩
 obtain⟨m,hm⟩:∃m,ixN n=m:=⟨_,rfl⟩
 have hm3:=hm▸q1z n;obtain⟨u,hu⟩:∃u,UInt8.ofNat (217+m)=u:=⟨_,rfl⟩
 have HU:Hid ((u.toNat:Int)=217+m):=by show _=_;rw[←hu,u8n _ (by omega)];omega
 have HE:Hid (qa2 n=[u]++beF n (2^m)):=by show _=_;rw[q6W n h24 hn,hm,hu];rfl
 rw[HE.out];have cW:=fun V=>qyK V (n:Int);rw[Int.toNat_natCast,hm] at cW;have cB:=fun V=>qyG (2^m) n V (by omega) (qzb (Nat.le_refl m) hm3).2;have cI:=fun V=>qzt V m hm3;have hlen:¬(1+(beF n (2^m)).length>9223372036854775807):=by rw[qy0];have:=(qzb (Nat.le_refl m) hm3).2;omega
 generalize 2^m=kv at *;obtain⟨cc,HCC⟩:∃cc,Hid ([u]++beF n kv=cc):=⟨_,show _=_ from rfl⟩
 rw[HCC.out];have hlt:¬(n:Int)<32:=by omega
 have HW2:Hid (IntKind.i64.wrap (217+(m:Int))=u.toNat):=by show _=_;rw[HU.out];exact w64 _ (by omega)
 have HW3:Hid (IntKind.u8.wrap (u.toNat:Int)=u.toNat):=w8 _ (by have:=u.toNat_lt;omega);go_enter func121,ntmps121
 go_wp2_with (first|(go_at_call 122;refine(cW _).mono ?_;rintro e w2 ⟨rfl,hB2⟩))
 refine rgn (S:=fun _=>True) trivial (by kernel_rfl) ?_;intro hS;refine tkk 0 13 (.int .i64 kv) (by kernel_rfl) iQ3 hS ?_;refine tkk 6 19 (.int .i64 n) (by kernel_rfl) iQ3 hS ?_;refine tkk 7 20 (.int .i64 kv) (by kernel_rfl) iQ3 hS ?_;refine rdH 1 rfl (by kernel_rfl) (fun K hK => ?_);go_simp;refine(cI _).mono ?_;rintro e w3 ⟨rfl,hB3⟩;refine hK.out _ _ hS (fun _ => ?_);refine tk 2 15 (.int .i64 u.toNat) rfl (by kernel_rfl) iQ3 (fun Z _ => ?y2) hS ?_
 case y2=>(go_simp<;>exact HW2.out)
 refine tk 3 16 (.int .u8 u.toNat) rfl (by kernel_rfl) iQ3 (fun Z _ => ?y3) hS ?_
 case y3=>(go_simp<;>exact HW3.out)
 refine tri 8 4 5 21 17 18 124 (qxX (beF n kv)) u ⟨rfl,rfl,rfl⟩ rfl (by kernel_rfl) (fun _ _ _=>⟨by kernel_rfl,by kernel_rfl,by kernel_rfl⟩) (fun _=>⟨by kernel_rfl,by kernel_rfl⟩) cB (fun _ _=>trivial) (fun V y hB => ?_);refine tk 9 22 (qxX cc) rfl (by kernel_rfl) iQ3 (fun Z _ => ?y5) hS ?_
 case y5=>(unfold qxX;go_simp;rw[←HCC.out];exact qxF [u] _)
 refine tkk 10 2 (qxX cc) (by kernel_rfl) iQ3 hS ?_;refine wpAnyH_done (by kernel_rfl) ?_ _;go_wp2;go_ret;exact⟨by kernel_rfl,q6k hB2 (hB3.trans (hB.mono hB3.size))⟩
def qzw (sh lo n:Nat):List UInt8:=if n<16 then [UInt8.ofNat (sh+n)] else if n≤65535 then UInt8.ofNat lo::beF n 2 else UInt8.ofNat (lo+1)::beF n 4
theorem q2N (n:Nat):qzw 144 220 n=qbB n∧qzw 128 222 n=qb2 n:=⟨rfl,rfl⟩
theorem qz8 (W:World)(sh lo n:Nat)(h1:sh≤200)(h2:lo≤250)(hn:n≤9223372036854775807):Calls prog 125 #[.int .i64 sh,.int .i64 lo,.int .i64 n] W fun e W'=>e=.returned (qxX (qzw sh lo n))∧Below W.heap.size W W':=by
 by_cases h24:n<16
 ·obtain⟨u,hu⟩:∃u,UInt8.ofNat (sh+n)=u:=⟨_,rfl⟩
  have HE:Hid (qzw sh lo n=[u]):=by show _=_;unfold qzw;rw[if_pos h24,hu]
  rw[HE.out];have hc:=qyI W ((sh:Int)+(n:Int)) u (by rw[←hu,u8n _ (by omega)];omega);have hlt:(n:Int)<16:=by omega
  go_enter func125,ntmps125;go_wp2;go_ret;exact⟨rfl,bwA⟩
 have hlt:¬(n:Int)<16:=by omega
 by_cases hl:n≤65535
 ·obtain⟨u,hu⟩:∃u,UInt8.ofNat lo=u:=⟨_,rfl⟩
  have HE:Hid (qzw sh lo n=[u]++beF n 2):=by show _=_;unfold qzw;rw[if_neg h24,if_pos hl,hu];rfl
  rw[HE.out];have cB:=fun V=>qyG 2 n V hn (by omega);have hlen:¬(1+(beF n 2).length>9223372036854775807):=by rw[qy0];omega
  have hlt2:(n:Int)<65536:=by omega
  have HW3:Hid (IntKind.u8.wrap (lo:Int)=u.toNat):=by show _=_;rw[←hu,u8n _ (by omega)];exact w8 _ (by omega)
  go_enter func125,ntmps125
  go_wp2_with fail
  refine rgn (S:=fun _=>True) trivial (by kernel_rfl) ?_;intro hS;refine tkk 0 17 (.int .i64 lo) (by kernel_rfl) iQ3 hS ?_;refine tk 1 18 (.int .u8 u.toNat) rfl (by kernel_rfl) iQ3 (fun Z _ => ?y3) hS ?_
  case y3=>(go_simp<;>exact HW3.out)
  refine tkk 4 21 (.int .i64 n) (by kernel_rfl) iQ3 hS ?_;refine tri 5 2 3 22 19 20 124 (qxX (beF n 2)) u ⟨rfl,rfl,rfl⟩ rfl (by kernel_rfl) (fun _ _ _=>⟨by kernel_rfl,by kernel_rfl,by kernel_rfl⟩) (fun _=>⟨by kernel_rfl,by kernel_rfl⟩) cB (fun _ _=>trivial) (fun V y hB => ?_);refine tk 6 23 (qxX ([u]++beF n 2)) rfl (by kernel_rfl) iQ3 (fun Z _ => ?y5) hS ?_
  case y5=>(unfold qxX;go_simp;exact qxF [u] _)
  refine tkk 7 6 (qxX ([u]++beF n 2)) (by kernel_rfl) iQ3 hS ?_;refine wpAnyH_done (by kernel_rfl) ?_ _;go_wp2;go_ret;exact⟨rfl,(Below.refl _ _).drew.trans hB⟩
 obtain⟨u,hu⟩:∃u,UInt8.ofNat (lo+1)=u:=⟨_,rfl⟩
 have HE:Hid (qzw sh lo n=[u]++beF n 4):=by show _=_;unfold qzw;rw[if_neg h24,if_neg hl,hu];rfl
 rw[HE.out];have cB:=fun V=>qyG 4 n V hn (by omega);have hlen:¬(1+(beF n 4).length>9223372036854775807):=by rw[qy0];omega
 have hlt2:¬(n:Int)<65536:=by omega
 have HW2:Hid (IntKind.i64.wrap ((lo:Int)+1)=u.toNat):=by show _=_;rw[←hu,u8n _ (by omega)];exact w64 _ (by omega)
 have HW3:Hid (IntKind.u8.wrap (u.toNat:Int)=u.toNat):=w8 _ (by have:=u.toNat_lt;omega);go_enter func125,ntmps125
 go_wp2_with fail
 refine rgn (S:=fun _=>True) trivial (by kernel_rfl) ?_;intro hS;refine tkk 0 24 (.int .i64 lo) (by kernel_rfl) iQ3 hS ?_;refine tk 1 25 (.int .i64 u.toNat) rfl (by kernel_rfl) iQ3 (fun Z _ => ?y2) hS ?_
 case y2=>(go_simp<;>exact HW2.out)
 refine tk 2 26 (.int .u8 u.toNat) rfl (by kernel_rfl) iQ3 (fun Z _ => ?y3) hS ?_
 case y3=>(go_simp<;>exact HW3.out)
 refine tkk 5 29 (.int .i64 n) (by kernel_rfl) iQ3 hS ?_;refine tri 6 3 4 30 27 28 124 (qxX (beF n 4)) u ⟨rfl,rfl,rfl⟩ rfl (by kernel_rfl) (fun _ _ _=>⟨by kernel_rfl,by kernel_rfl,by kernel_rfl⟩) (fun _=>⟨by kernel_rfl,by kernel_rfl⟩) cB (fun _ _=>trivial) (fun V y hB => ?_);refine tk 7 31 (qxX ([u]++beF n 4)) rfl (by kernel_rfl) iQ3 (fun Z _ => ?y5) hS ?_
 case y5=>(unfold qxX;go_simp;exact qxF [u] _)
 refine tkk 8 6 (qxX ([u]++beF n 4)) (by kernel_rfl) iQ3 hS ?_;refine wpAnyH_done (by kernel_rfl) ?_ _;go_wp2;go_ret;exact⟨rfl,(Below.refl _ _).drew.trans hB⟩
def ixZ (z:Int):Nat:=if z < -4611686018427387904 then 3 else ixN ((-1-z)*2).toNat
theorem q67 (n:Nat)(h:¬n<128):qbf n=UInt8.ofNat (204+ixN n)::beF n (2^ixN n):=by
 unfold qbf ixN;rw[if_neg h];by_cases a:n<256
 ·rw[if_pos (by omega),if_pos a];rfl
 rw[if_neg (by omega),if_neg a];by_cases b:n<65536
 ·rw[if_pos (by omega),if_pos b];rfl
 rw[if_neg (by omega),if_neg b];by_cases c:n<4294967296
 ·rw[if_pos (by omega),if_pos c];rfl
 rw[if_neg (by omega),if_neg c];rfl
theorem q6B (z:Int)(h:z < -32):qbo z=UInt8.ofNat (208+ixZ z)::beF (z%18446744073709551616).toNat (2^ixZ z):=by
 unfold qbo ixZ ixN;rw[if_neg (by omega)];by_cases d:z < -4611686018427387904
 ·rw[if_pos d,if_neg (by omega),if_neg (by omega),if_neg (by omega)];rfl
 rw[if_neg d];by_cases a : -128≤z
 ·rw[if_pos a,if_pos (show((-1-z)*2).toNat<256 by omega)];rfl
 rw[if_neg a,if_neg (show ¬((-1-z)*2).toNat<256 by omega)];by_cases b : -32768≤z
 ·rw[if_pos b,if_pos (show((-1-z)*2).toNat<65536 by omega)];rfl
 rw[if_neg b,if_neg (show ¬((-1-z)*2).toNat<65536 by omega)];by_cases c : -2147483648≤z
 ·rw[if_pos c,if_pos (show((-1-z)*2).toNat<4294967296 by omega)];rfl
 rw[if_neg c,if_neg (show ¬((-1-z)*2).toNat<4294967296 by omega)];rfl
theorem q62 (z:Int):ixZ z≤3:=by
 unfold ixZ;split
 ·omega
 exact q1z _
theorem q25 (z q:Int)(i:Nat)(hi:i<8)(hq:q=z / 2^(8*i)):((z%18446744073709551616).toNat / 2^(8*i)%256:Nat)=(q%256).toNat∧q / 256=z / 2^(8*(i+1)):=by
 subst hq;rcases(show i=0∨i=1∨i=2∨i=3∨i=4∨i=5∨i=6∨i=7 by omega) with rfl|rfl|rfl|rfl|rfl|rfl|rfl|rfl<;>(simp;omega)
theorem q2k (W:World)(n:Nat)(hn:n≤9223372036854775807):Calls prog 120 #[.int .i64 n] W fun e W'=>e=.returned (qxX (qbf n))∧Below W.heap.size W W':=by
 have hge:0≤(n:Int):=by omega
 by_cases h24:n<128
 ·obtain⟨u,hu⟩:∃u,UInt8.ofNat n=u:=⟨_,rfl⟩
  have HE:Hid (qbf n=[u]):=by show _=_;unfold qbf;rw[if_pos h24,hu]
  rw[HE.out];have hc:=qyI W (n:Int) u (by rw[←hu,u8n _ (by omega)]);have hlt:(n:Int)<128:=by omega
  go_enter func120,ntmps120;go_wp2;go_ret;exact⟨rfl,bwA⟩
 obtain⟨m,hm⟩:∃m,ixN n=m:=⟨_,rfl⟩
 have hm3:=hm▸q1z n;obtain⟨u,hu⟩:∃u,UInt8.ofNat (204+m)=u:=⟨_,rfl⟩
 have HU:Hid ((u.toNat:Int)=204+m):=by show _=_;rw[←hu,u8n _ (by omega)];omega
 have HE:Hid (qbf n=[u]++beF n (2^m)):=by show _=_;rw[q67 n h24,hm,hu];rfl
 rw[HE.out];have cW:=fun V=>qyK V (n:Int);rw[Int.toNat_natCast,hm] at cW;have cB:=fun V=>qyG (2^m) n V (by omega) (qzb (Nat.le_refl m) hm3).2;have cI:=fun V=>qzt V m hm3;have hlen:¬(1+(beF n (2^m)).length>9223372036854775807):=by rw[qy0];have:=(qzb (Nat.le_refl m) hm3).2;omega
 generalize 2^m=kv at *;obtain⟨cc,HCC⟩:∃cc,Hid ([u]++beF n kv=cc):=⟨_,show _=_ from rfl⟩
 rw[HCC.out];have hlt:¬(n:Int)<128:=by omega
 have HW2:Hid (IntKind.i64.wrap (204+(m:Int))=u.toNat):=by show _=_;rw[HU.out];exact w64 _ (by omega)
 have HW3:Hid (IntKind.u8.wrap (u.toNat:Int)=u.toNat):=w8 _ (by have:=u.toNat_lt;omega);go_enter func120,ntmps120
 go_wp2_with (first|(go_at_call 122;refine(cW _).mono ?_;rintro e w2 ⟨rfl,hB2⟩))
 refine rgn (S:=fun _=>True) trivial (by kernel_rfl) ?_;intro hS;refine tkk 0 18 (.int .i64 kv) (by kernel_rfl) iQ3 hS ?_;refine tkk 6 24 (.int .i64 n) (by kernel_rfl) iQ3 hS ?_;refine tkk 7 25 (.int .i64 kv) (by kernel_rfl) iQ3 hS ?_;refine rdH 1 rfl (by kernel_rfl) (fun K hK => ?_);go_simp;refine(cI _).mono ?_;rintro e w3 ⟨rfl,hB3⟩;refine hK.out _ _ hS (fun _ => ?_);refine tk 2 20 (.int .i64 u.toNat) rfl (by kernel_rfl) iQ3 (fun Z _ => ?y2) hS ?_
 case y2=>(go_simp<;>exact HW2.out)
 refine tk 3 21 (.int .u8 u.toNat) rfl (by kernel_rfl) iQ3 (fun Z _ => ?y3) hS ?_
 case y3=>(go_simp<;>exact HW3.out)
 refine tri 8 4 5 26 22 23 124 (qxX (beF n kv)) u ⟨rfl,rfl,rfl⟩ rfl (by kernel_rfl) (fun _ _ _=>⟨by kernel_rfl,by kernel_rfl,by kernel_rfl⟩) (fun _=>⟨by kernel_rfl,by kernel_rfl⟩) cB (fun _ _=>trivial) (fun V y hB => ?_);refine tk 9 27 (qxX cc) rfl (by kernel_rfl) iQ3 (fun Z _ => ?y5) hS ?_
 case y5=>(unfold qxX;go_simp;rw[←HCC.out];exact qxF [u] _)
 refine tkk 10 2 (qxX cc) (by kernel_rfl) iQ3 hS ?_;refine wpAnyH_done (by kernel_rfl) ?_ _;go_wp2;go_ret;exact⟨by kernel_rfl,q6k hB2 (hB3.trans (hB.mono hB3.size))⟩
theorem q1r (q:Int):∃b:Nat,b<256∧q%256=b∧(q-b).tdiv 256=q / 256∧((q.tmod 256=b-256∧0<b)∨q.tmod 256=b):=by
 refine⟨(q%256).toNat,by omega,by omega,?_,?_⟩
 ·have e:q-((q%256).toNat:Int)=256*(q / 256):=by omega
  rw[e,Int.mul_tdiv_cancel_left _ (by decide)]
 by_cases h:0≤q
 ·right;rw[Int.tmod_eq_emod_of_nonneg h];omega
 have e:q.tmod 256 = -((-q)%256):=by
  conv=>lhs;rw[show q = -(-q) by omega,Int.neg_tmod,Int.tmod_eq_emod_of_nonneg (by omega)]
 rw[e];omega
theorem q1W (W:World)(z:Int)(hz:z<0)(h1 : -9223372036854775808≤z):Calls prog 120 #[.int .i64 z] W fun e W'=>e=.returned (qxX (qbo z))∧Below W.heap.size W W':=by
 have hge:¬0≤z:=by omega
 by_cases h24 : -32≤z
 ·obtain⟨u,hu⟩:∃u,UInt8.ofNat (z%256).toNat=u:=⟨_,rfl⟩
  have HE:Hid (qbo z=[u]):=by show _=_;unfold qbo;rw[if_pos h24,hu]
  rw[HE.out];have hc:=qyI W (z+256) u (by rw[←hu,u8n _ (by omega)];omega);go_enter func120,ntmps120;go_wp2;go_ret;exact⟨rfl,bwA⟩
 obtain⟨m,hm⟩:∃m,ixZ z=m:=⟨_,rfl⟩
 have hm3:=hm▸q62 z;obtain⟨u,hu⟩:∃u,UInt8.ofNat (208+m)=u:=⟨_,rfl⟩
 obtain⟨zz,HZ⟩:∃zz,Hid ((z%18446744073709551616).toNat=zz):=⟨_,show _=_ from rfl⟩
 have HE:Hid (qbo z=[u]++beF zz (2^m)):=by show _=_;rw[q6B z (by omega),hm,hu,HZ.out];rfl
 rw[HE.out];have hk8:=(qzb (Nat.le_refl m) hm3).2;have cW:=fun V n=>qyK V n;have cI:=fun V=>qzt V m hm3;have HC:Hid (∀w:World,(convert 28 9 (.slice (some ⟨w.heap.size,0,none⟩) 1 1)).run prog (w.alloc (.cells #[.int .u8 (208+(m:Int))] 5))=.ok (.string ⟨#[u]⟩) (w.alloc (.cells #[.int .u8 (208+(m:Int))] 5))):=fun w=>qyI w _ u (by rw[←hu,u8n _ (by omega)];omega);have hcase:(z < -4611686018427387904∧m=3)∨(¬z < -4611686018427387904∧ixN ((-1-z)*2).toNat=m):=by
  unfold ixZ at hm;by_cases d:z < -4611686018427387904
  ·rw[if_pos d] at hm;exact .inl ⟨d,hm.symm⟩
  rw[if_neg d] at hm;exact .inr ⟨d,hm⟩
 rcases hcase with ⟨d,rfl⟩|⟨d,hm⟩
 ·have cI8:∀V,Calls prog 123 #[.int .i64 8] V fun e W'=>e=.returned (.int .i64 3)∧Below V.heap.size V W':=cI;have HC3:Hid (∀w:World,(convert 28 9 (.slice (some ⟨w.heap.size,0,none⟩) 1 1)).run prog (w.alloc (.cells #[.int .u8 211] 5))=.ok (.string ⟨#[u]⟩) (w.alloc (.cells #[.int .u8 211] 5))):=HC
  replace cI:=cI8
  replace HC:=HC3
  go_enter func120,ntmps120
  go_wp2_with (first|(go_at_call 122;refine(cW _ _).mono ?_;rintro e w2 ⟨rfl,hB2⟩))
  go_loopg [0,5,6] 8 (fun g zq zs zi wr=>∃(q:Int) (i:Nat),zq=.int .i64 q∧zs=.string ⟨(beF zz i).toArray⟩∧zi=.int .i64 i∧Hid (i+g=8)∧Hid (q=z / 2^(8*i))∧Hid (-9223372036854775808≤q∧q≤9223372036854775807)∧Hid (Below W.heap.size W wr))
  case atStart=>exact⟨z,0,rfl,rfl,rfl,by show _=_;omega,by show _=_;simp,⟨h1,by omega⟩,hB2⟩
  case round =>
   obtain⟨q,i,rfl,rfl,rfl,hg,hq,hr,HB⟩:=hrel;have hi8:i≤8:=by have:=hg.out;omega
   have hlen:¬(1+(beF zz i).length>9223372036854775807):=by rw[qy0];omega
   cases gk with
   |zero =>
    have HI:Hid (i=8):=hg.out;have hlt:¬(i:Int)<8:=by have:=HI.out;omega
    go_wp2_with (first|(go_at_call 123;refine(cI _).mono ?_;clear cI;rintro e w3 ⟨rfl,hB3⟩;have hc:=HC.out w3))
    go_ret;refine⟨?_,HB.out.trans ((hB3.mono HB.out.size).alloc (Nat.le_trans HB.out.size hB3.size) _)⟩;obtain rfl:=HI.out;exact congrArg (fun x=>Ending.returned (Value.string x)) (qxF [u] _)
   |succ g =>
    have hlt:(i:Int)<8:=by have:=hg.out;omega
    obtain⟨b,hb,e1,e2,e3⟩:=q1r q;obtain⟨v,hv⟩:∃v,UInt8.ofNat b=v:=⟨_,rfl⟩
    have hc:=qyI wr (b:Int) v (by rw[←hv,u8n _ hb]);have hn:=q25 z q i (by have:=hg.out;omega) hq.out;have HN:Hid (beF zz (i+1)=[v]++beF zz i):=by show _=_;rw[beF,←HZ.out,hn.1,e1];simp only[Int.toNat_natCast];rw[hv];rfl
    have hw:=hr.out;have e4:wrap64 ((wrap64 (q-b)).tdiv 256)=q / 256:=by rw[show wrap64 (q-b)=q-b by unfold wrap64;omega,e2];unfold wrap64;omega
    have HQ:Hid (wrap64 ((wrap64 (q-b)).tdiv 256)=z / 2^(8*(i+1))):=by show _=_;rw[e4,hn.2]
    have HR:Hid (-9223372036854775808≤wrap64 ((wrap64 (q-b)).tdiv 256)∧wrap64 ((wrap64 (q-b)).tdiv 256)≤9223372036854775807):=by show _∧_;rw[e4];omega
    have hq1:=hr.out.1;have hq2:=hr.out.2;clear hn e1 e2 e4 hw hv cI;rcases e3 with ⟨e3,hb0⟩|e3
    ·have d1:(b:Int)-256<0:=by omega
     go_wp2;go_roundg g
     case measure=>omega
     case rel=>exact⟨_,i+1,rfl,by rw[HN.out,←qxF],by go_num,by show _=_;have:=hg.out;omega,HQ,HR,HB.out.alloc HB.out.size _⟩
    have d1:¬(b:Int)<0:=by omega
    go_wp2;go_roundg g
    case measure=>omega
    case rel=>exact⟨_,i+1,rfl,by rw[HN.out,←qxF],by go_num,by show _=_;have:=hg.out;omega,HQ,HR,HB.out.alloc HB.out.size _⟩
 replace cW:=fun V=>cW V ((-1-z)*2)
 rw[hm] at cW;generalize 2^m=kv at *;go_enter func120,ntmps120
 go_wp2_with (first|(go_at_call 122;refine(cW _).mono ?_;clear cW;rintro e w2 ⟨rfl,hB2⟩))
 go_loopg [0,5,6] kv (fun g zq zs zi wr=>∃(q:Int) (i:Nat),zq=.int .i64 q∧zs=.string ⟨(beF zz i).toArray⟩∧zi=.int .i64 i∧Hid (i+g=kv)∧Hid (q=z / 2^(8*i))∧Hid (-9223372036854775808≤q∧q≤9223372036854775807)∧Hid (Below W.heap.size W wr))
 case atStart=>exact⟨z,0,rfl,rfl,rfl,by show _=_;omega,by show _=_;simp,⟨h1,by omega⟩,hB2⟩
 case round =>
  obtain⟨q,i,rfl,rfl,rfl,hg,hq,hr,HB⟩:=hrel;have hi8:i≤8:=by have:=hg.out;omega
  have hlen:¬(1+(beF zz i).length>9223372036854775807):=by rw[qy0];omega
  cases gk with
  |zero =>
   have HI:Hid (i=kv):=hg.out;have hlt:¬(i:Int)<(kv:Int):=by have:=HI.out;omega
   clear hg hq hr hB2
   go_wp2_with (first|(go_at_call 123;refine(cI _).mono ?_;clear cI;rintro e w3 ⟨rfl,hB3⟩;have hc:=HC.out w3))
   go_ret;refine⟨?_,HB.out.trans ((hB3.mono HB.out.size).alloc (Nat.le_trans HB.out.size hB3.size) _)⟩;obtain rfl:=HI.out;exact congrArg (fun x=>Ending.returned (Value.string x)) (qxF [u] _)
  |succ g =>
   have hlt:(i:Int)<(kv:Int):=by have:=hg.out;omega
   obtain⟨b,hb,e1,e2,e3⟩:=q1r q;obtain⟨v,hv⟩:∃v,UInt8.ofNat b=v:=⟨_,rfl⟩
   have hc:=qyI wr (b:Int) v (by rw[←hv,u8n _ hb]);have hn:=q25 z q i (by have:=hg.out;omega) hq.out;have HN:Hid (beF zz (i+1)=[v]++beF zz i):=by show _=_;rw[beF,←HZ.out,hn.1,e1];simp only[Int.toNat_natCast];rw[hv];rfl
   have hw:=hr.out;have e4:wrap64 ((wrap64 (q-b)).tdiv 256)=q / 256:=by rw[show wrap64 (q-b)=q-b by unfold wrap64;omega,e2];unfold wrap64;omega
   have HQ:Hid (wrap64 ((wrap64 (q-b)).tdiv 256)=z / 2^(8*(i+1))):=by show _=_;rw[e4,hn.2]
   have HR:Hid (-9223372036854775808≤wrap64 ((wrap64 (q-b)).tdiv 256)∧wrap64 ((wrap64 (q-b)).tdiv 256)≤9223372036854775807):=by show _∧_;rw[e4];omega
   have hq1:=hr.out.1;have hq2:=hr.out.2;clear hn e1 e2 e4 hw hv cI;rcases e3 with ⟨e3,hb0⟩|e3
   ·have d1:(b:Int)-256<0:=by omega
    go_wp2;go_roundg g
    case measure=>omega
    case rel=>exact⟨_,i+1,rfl,by rw[HN.out,←qxF],by go_num,by show _=_;have:=hg.out;omega,HQ,HR,HB.out.alloc HB.out.size _⟩
   have d1:¬(b:Int)<0:=by omega
   go_wp2;go_roundg g
   case measure=>omega
   case rel=>exact⟨_,i+1,rfl,by rw[HN.out,←qxF],by go_num,by show _=_;have:=hg.out;omega,HQ,HR,HB.out.alloc HB.out.size _⟩
end
end Go.Proofs.YtllcbnfmihfaaaaGreatDoor
