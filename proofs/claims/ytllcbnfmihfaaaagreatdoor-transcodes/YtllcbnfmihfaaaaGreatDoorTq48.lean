import Derived.Test.YtllcbnfmihfaaaaGreatDoorTq47
import Derived.Test.YtllcbnfmihfaaaaGreatDoorTq43
set_option maxRecDepth 100000
set_option maxHeartbeats 8000000
namespace Go.Proofs.YtllcbnfmihfaaaaGreatDoor
open Go.Proofs.Tryz
variable {V W:World}{A:Array Value}
section
open Go.RowKit Go.Lib
theorem q5J (k:Nat)(W:World)(bs:List UInt8)(fm d l lim:Int)(i:Nat)(r:Except (Int×Int) (DataW Unit×Nat))(hfm:fm=1)(cJ:∀V,Calls prog 115 #[.agg (inA bs fm d l),.int .i64 i,.int .i64 0] V (qxV k bs lim V r)):Calls prog 70 #[.agg (inA bs fm d l),.int .i64 i] W (qxV k bs lim W r):=by
 have tf:(fm==1)=true:=by simpa using hfm
 have HCC:Hid (∀V,Calls prog 115 #[.agg #[.string ⟨bs.toArray⟩,.int .i64 fm,.int .i64 d,.int .i64 l],.int .i64 i,.int .i64 0] V (qxV k bs lim V r)):=cJ;have HX:=qzU W bs fm d l;have hsz:∀A,(((W.alloc (.cells A 143)).alloc (.cells th0 93)).alloc (.cells (qqp (0,0)) 95)).heap.size=W.heap.size+3:=fun A=>by simp
 clear hfm cJ;unfold inA;go_enter func70,ntmps70
 go_wp2_with fail
 refine(HCC.out _).mono ?_;rintro e w3 hrd;obtain⟨hB3,r',kk,nn,s,a1,i1,j1,b1,p1,m1,z,F,hlo,rfl,hA,hF⟩:=qy2 hrd;have HX3:=qaa (HX.out.next hB3);have HLO:=qaa hlo;have HFE:=qaa hF;have HA:Hid (∀dd q,r'=.ok (dd,q)→InR bs lim q∧z=(q:Int)∧F=(0,0)∧qyi k w3 (fun j=>W.heap.size+3≤j∧j<w3.heap.size) (.agg (thA kk nn s (.slice a1 i1 j1) (.slice b1 p1 m1))) dd):=fun dd q h=>⟨(hA dd q h).1,(hA dd q h).2.1,(hA dd q h).2.2.1,(hA dd q h).2.2.2.same (fun j hj=>⟨by have h2:=hj.1;have h3:=hsz #[.string ⟨bs.toArray⟩,.int .i64 fm,.int .i64 d,.int .i64 l];unfold th0 thA qxE qqp at h3;simp only[World.size_alloc] at h2 h3;omega,hj.2⟩) (fun _ _=>rfl)⟩
 clear hrd hlo hF hA HCC hsz;simp only[]
 go_wp2_with (first
  |((with_reducible refine zT 4 13 rfl rfl (W.heap.size+1) (thA kk nn s (.slice a1 i1 j1) (.slice b1 p1 m1)) ?_ ?_);exact⟨rfl,rfl,HX3.out.th,thg⟩)
  |((with_reducible refine zF 6 15 rfl rfl (W.heap.size+2) (F) ?_ ?_);exact⟨rfl,rfl,qyc HX3.out bwR _⟩))
 have hf:=qxQ HX3.out bwR (thA kk nn s (.slice a1 i1 j1) (.slice b1 p1 m1)) (F);refine eoT results70 hf (.int .i64 z) rfl rfl rfl rfl ⟨hf.2.2,r',HLO.out,?_⟩
 cases r' with
 |error f =>
  obtain rfl:=HFE.out f rfl;exact⟨_,_,_,_,_,_,_,_,_,_,rfl⟩
 |ok y =>
  obtain⟨dd,q⟩:=y;obtain⟨hq,rfl,rfl,hA⟩:=HA.out dd q rfl;refine⟨hq,_,_,_,_,_,_,_,_,_,rfl,hA.same (fun j hj=>⟨by have:=hj.1;omega,by simpa using hj.2⟩) (fun j hj => ?_)⟩;rw[setRow_other _ _ _ _ (by omega),setRow_other _ _ _ _ (by omega)]
theorem q3J (k:Nat)(W:World)(bs:List UInt8)(fm d l lim:Int)(i:Nat)(r:Except (Int×Int) (DataW Unit×Nat))(hfm:¬fm=1)(cJ:∀V,Calls prog 116 #[.agg (inA bs fm d l),.int .i64 i,.int .i64 0] V (qxV k bs lim V r)):Calls prog 70 #[.agg (inA bs fm d l),.int .i64 i] W (qxV k bs lim W r):=by
 have tf:(fm==1)=false:=by simpa using hfm
 have HCC:Hid (∀V,Calls prog 116 #[.agg #[.string ⟨bs.toArray⟩,.int .i64 fm,.int .i64 d,.int .i64 l],.int .i64 i,.int .i64 0] V (qxV k bs lim V r)):=cJ;have HX:=qzU W bs fm d l;have hsz:∀A,(((W.alloc (.cells A 143)).alloc (.cells th0 93)).alloc (.cells (qqp (0,0)) 95)).heap.size=W.heap.size+3:=fun A=>by simp
 clear hfm cJ;unfold inA;go_enter func70,ntmps70
 go_wp2_with fail
 refine(HCC.out _).mono ?_;rintro e w3 hrd;obtain⟨hB3,r',kk,nn,s,a1,i1,j1,b1,p1,m1,z,F,hlo,rfl,hA,hF⟩:=qy2 hrd;have HX3:=qaa (HX.out.next hB3);have HLO:=qaa hlo;have HFE:=qaa hF;have HA:Hid (∀dd q,r'=.ok (dd,q)→InR bs lim q∧z=(q:Int)∧F=(0,0)∧qyi k w3 (fun j=>W.heap.size+3≤j∧j<w3.heap.size) (.agg (thA kk nn s (.slice a1 i1 j1) (.slice b1 p1 m1))) dd):=fun dd q h=>⟨(hA dd q h).1,(hA dd q h).2.1,(hA dd q h).2.2.1,(hA dd q h).2.2.2.same (fun j hj=>⟨by have h2:=hj.1;have h3:=hsz #[.string ⟨bs.toArray⟩,.int .i64 fm,.int .i64 d,.int .i64 l];unfold th0 thA qxE qqp at h3;simp only[World.size_alloc] at h2 h3;omega,hj.2⟩) (fun _ _=>rfl)⟩
 clear hrd hlo hF hA HCC hsz;simp only[]
 go_wp2_with (first
  |((with_reducible refine zT 4 19 rfl rfl (W.heap.size+1) (thA kk nn s (.slice a1 i1 j1) (.slice b1 p1 m1)) ?_ ?_);exact⟨rfl,rfl,HX3.out.th,thg⟩)
  |((with_reducible refine zF 6 21 rfl rfl (W.heap.size+2) (F) ?_ ?_);exact⟨rfl,rfl,qyc HX3.out bwR _⟩))
 have hf:=qxQ HX3.out bwR (thA kk nn s (.slice a1 i1 j1) (.slice b1 p1 m1)) (F);refine eoT results70 hf (.int .i64 z) rfl rfl rfl rfl ⟨hf.2.2,r',HLO.out,?_⟩
 cases r' with
 |error f =>
  obtain rfl:=HFE.out f rfl;exact⟨_,_,_,_,_,_,_,_,_,_,rfl⟩
 |ok y =>
  obtain⟨dd,q⟩:=y;obtain⟨hq,rfl,rfl,hA⟩:=HA.out dd q rfl;refine⟨hq,_,_,_,_,_,_,_,_,_,rfl,hA.same (fun j hj=>⟨by have:=hj.1;omega,by simpa using hj.2⟩) (fun j hj => ?_)⟩;rw[setRow_other _ _ _ _ (by omega),setRow_other _ _ _ _ (by omega)]
theorem q3D (W:World)(bs:List UInt8)(fm d l lim:Int)(i:Nat)(hfm:fm=1∨fm=2∨fm=3)(hl:Lm bs l lim)(hb:bs.length≤200000000)(hd0:0≤d)(hd2:d≤100000)(hi:InR bs lim i):Calls prog 70 #[.agg (inA bs fm d l),.int .i64 i] W (qxV (d.toNat+1) bs lim W (thO fm bs d lim i)):=by
 have hdn:d<((0:Nat):Int)+((d.toNat+1:Nat):Int):=by omega
 rcases hfm with rfl|rfl|rfl
 ·refine q5J (d.toNat+1) W bs 1 d l lim i _ rfl (fun V => ?_);exact q0S ⟨none,bs,0,d,lim,0,0⟩ 1 l hl hb hd2 (d.toNat+1) 0 V i hd0 hdn hi
 ·refine q3J (d.toNat+1) W bs 2 d l lim i _ (by decide) (fun V => ?_);exact(q3W bs 2 d l lim (.inl rfl) hl hb hd2 (d.toNat+1) 0 V i hd0 hdn hi).mono fun e W' h=>q5V h
 refine q3J (d.toNat+1) W bs 3 d l lim i _ (by decide) (fun V => ?_);exact(q3W bs 3 d l lim (.inr rfl) hl hb hd2 (d.toNat+1) 0 V i hd0 hdn hi).mono fun e W' h=>q5V h
theorem q23 (bs:List UInt8)(a b c:Int):(inA [] 0 0 0).size=(inA bs a b c).size:=rfl
theorem q4j (bs:List UInt8)(a b c:Int):(inA bs a b c).all (·.oneCell')=true:=by simp[inA,Value.oneCell']
def skO (fm:Int)(bs:List UInt8)(l:Int)(p:Nat):Nat:=if fm=1 then skR bs l (bs.length+1-p) p else p
theorem qzr (fm:Int)(bs:List UInt8)(l:Int)(p:Nat)(hi:InR bs l p):(spO fm bs l p=.ok ((),skO fm bs l p)∧InR bs l (skO fm bs l p)∧p≤skO fm bs l p)∨(spO fm bs l p=.error (8,(skO fm bs l p:Int))∧(skO fm bs l p:Int)=l∧skO fm bs l p<bs.length):=by
 unfold spO skO;by_cases h:fm=1
 ·rw[if_pos h,if_pos h];rcases q0r (l:=l) (lim:=l) (fun _ _=>Iff.rfl) (bs.length+1-p) p hi with ⟨q,h1,h2,h3,h4,_⟩|⟨q,h1,h2,h3,h4⟩
  ·rw[h2];exact .inl ⟨h1,h3,h4⟩
  rw[h2];exact .inr ⟨h1,h3,h4⟩
 rw[if_neg h,if_neg h];exact .inl ⟨rfl,hi,Nat.le_refl _⟩
theorem q6a (fm:Int)(bs:List UInt8)(d l:Int)(p:Nat)(hp:(p:Int)=l)(hl:p<bs.length):thO fm bs d l p=.error (8,(p:Int)):=by
 have hb:∀hd,thB hd bs l d (d.toNat+1) 0 p=.error (8,(p:Int)):=fun hd=>by
  rw[thB,List.getElem?_eq_getElem hl];simp only[];rw[if_pos hp]
 unfold thO;split
 ·exact q33 hp hl
 split
 ·exact hb _
 exact hb _
theorem q4d (fm:Int)(bs:List UInt8)(d l:Int)(hl:0≤l){r':Except (Int×Int) (DataW Unit×Nat)}(hlo:qy8 bs l (thO fm bs d l (skO fm bs l 0)) r'):(∀f,r'=.error f→qgE fm bs d l=.error f)∧(∀dd q,r'=.ok (dd,q)→InR bs l q→InR bs l (skO fm bs l q)∧(skO fm bs l q<bs.length→qgE fm bs d l=.error (qr0 bs l (skO fm bs l q) 9))∧(¬skO fm bs l q<bs.length→qgE fm bs d l=.ok dd∧(bs.length:Int)≤l∧∀k,szF k dd≤400*bs.length∧TxV k dd)):=by
 have hi0:InR bs l 0:=⟨Nat.zero_le _,hl⟩
 have hlm:Lm bs l l:=fun _ _=>Iff.rfl;rcases qzr fm bs l 0 hi0 with ⟨h1,h2,_⟩|⟨h1,h2,h3⟩
 ·generalize skO fm bs l 0=p0 at *;have hdoc:qgE fm bs d l=match thO fm bs d l p0 with
    |.error e=>.error e
    |.ok (d,p1)=>match spO fm bs l p1 with
     |.error e=>.error e
     |.ok (_,p2)=>match qqn ⟨none,bs,0,0,l,p2,0⟩ with
      |.error e=>.error e
      |.ok _=>.ok d:=by
   unfold qgE qnZ;rw[h1];rfl
  refine⟨fun f hf => ?_,fun dd q hq hqi => ?_⟩
  ·subst hf;rcases hlo with h|⟨q,_,_,_,x,h⟩
   ·rw[hdoc,h]
   cases h
  subst hq;rcases hlo with h|⟨q',h4,h5,h6,x,h7⟩
  ·rw[h] at hdoc;simp only[] at hdoc;obtain⟨hg,hpq⟩:=q6o fm bs d l _ _ _ h;rcases qzr fm bs l q hqi with ⟨k1,k2,k3⟩|⟨k1,k2,k3⟩
   ·rw[k1] at hdoc;simp only[] at hdoc;generalize skO fm bs l q=p2 at *;refine⟨k2,fun hlt => ?_,fun hge => ?_⟩
    ·rw[hdoc];unfold qqn;have hc:=List.getElem?_eq_getElem hlt;simp only[hc];by_cases hp:(p2:Int)=l
     ·rw[if_pos hp,qxW hlm hc hp]
     rw[if_neg hp,qxT hlm k2 hc hp]
    have hn:bs[p2]? = none:=List.getElem?_eq_none (by omega);rw[hdoc];unfold qqn;simp only[hn];refine⟨trivial,?_,fun k=>⟨?_,hg.2 k⟩⟩
    ·have:=k2.2;have:=k2.1;omega
    have:=hg.1 k;have:=hqi.1;omega
   rw[k1] at hdoc;simp only[] at hdoc;generalize skO fm bs l q=p2 at *;refine⟨⟨by omega,by omega⟩,fun _ => ?_,fun h=>absurd k3 h⟩;rw[hdoc,qxW hlm (List.getElem?_eq_getElem k3) k2]
  injection h7 with h7;injection h7 with e1 e2;subst e2;rw[h4] at hdoc;simp only[] at hdoc;have e:skO fm bs l q=q:=by
   rcases qzr fm bs l q hqi with ⟨_,k2,k3⟩|⟨_,k2,k3⟩
   ·have:=k2.2;omega
   omega
  rw[e];refine⟨hqi,fun _ => ?_,fun h=>absurd h6 h⟩;rw[hdoc,qxW hlm (List.getElem?_eq_getElem h6) h5]
 have ht:=q6a fm bs d l _ h2 h3;have hdoc:qgE fm bs d l=.error (8,(skO fm bs l 0:Int)):=by
  unfold qgE qnZ;rw[h1]
 generalize skO fm bs l 0=p0 at *;rw[ht] at hlo;refine⟨fun f hf => ?_,fun dd q hq hqi => ?_⟩
 ·subst hf;rcases hlo with h|⟨q,_,_,_,x,h⟩
  ·injection h with h;subst h;exact hdoc
  cases h
 subst hq;rcases hlo with h|⟨q',h4,h5,h6,x,h7⟩
 ·cases h
 injection h7 with h7;injection h7 with e1 e2;subst e2;have e:skO fm bs l q=q:=by
  rcases qzr fm bs l q hqi with ⟨_,k2,k3⟩|⟨_,k2,k3⟩
  ·have:=k2.2;omega
  omega
 rw[e];refine⟨hqi,fun _ => ?_,fun h=>absurd h6 h⟩;rw[hdoc,qxW hlm (List.getElem?_eq_getElem h6) h5,show(p0:Int)=q by omega]
structure q4Y (W:World)(A:Array Value)(V:World):Prop where
 th:V.heap[W.heap.size]? = some (.cells th0 93)
 flt:V.heap[W.heap.size+1]? = some (.cells (qqp (0,0)) 95)
 box:V.heap[W.heap.size+2]? = some (.cells A 143)
 below:Below W.heap.size W V
theorem q4Y.next {V':World}(h:q4Y W A V)(hb:Below V.heap.size V V'):q4Y W A V' :=
 ⟨(hb.block _ (ltA h.th)).trans h.th,(hb.block _ (ltA h.flt)).trans h.flt,(hb.block _ (ltA h.box)).trans h.box,h.below.trans (hb.mono h.below.size)⟩
theorem q4Y.drew (h:q4Y W A V):q4Y W A V.drew:=⟨h.th,h.flt,h.box,h.below.drew⟩
theorem q55 (W:World)(A B:Array Value):q4Y W A ((((W.alloc (.cells th0 93)).alloc (.cells (qqp (0,0)) 95)).alloc (.cells B 143)).setRow (W.heap.size+2) A):=by
 have s1:(W.alloc (.cells th0 93)).heap.size=W.heap.size+1:=by simp
 have s2:((W.alloc (.cells th0 93)).alloc (.cells (qqp (0,0)) 95)).heap.size=W.heap.size+2:=by simp
 have h3:=qac ((W.alloc (.cells th0 93)).alloc (.cells (qqp (0,0)) 95)) (.cells B 143);have h2:=qac (W.alloc (.cells th0 93)) (.cells (qqp (0,0)) 95);rw[s2] at h3;rw[s1] at h2;refine⟨sx (by omega) ((Below.heap_alloc _ _ _ (by omega)).trans ((Below.heap_alloc _ _ _ (by omega)).trans (qac W _))),sx (by omega) ((Below.heap_alloc _ _ _ (by omega)).trans h2),setRow_heap _ _ _ _ _ _ h3,qah (((bwA).alloc (by omega) _).alloc (by omega) _) (by omega) _⟩
theorem q4q (V:World)(a b:Nat)(x y:Array Value):((V.setRow a x).setRow b y).heap.size=V.heap.size:=by simp[World.setRow]
theorem q5y (W:World)(B:Array Value):(((W.alloc (.cells th0 93)).alloc (.cells (qqp (0,0)) 95)).alloc (.cells B 143)).heap[W.heap.size+2]? = some (.cells B 143):=by
 have h:=qac ((W.alloc (.cells th0 93)).alloc (.cells (qqp (0,0)) 95)) (.cells B 143);rwa [show((W.alloc (.cells th0 93)).alloc (.cells (qqp (0,0)) 95)).heap.size=W.heap.size+2 by simp] at h
theorem q4Y.fin (h:q4Y W A V)(T:Array Value)(x:Int×Int):((V.setRow W.heap.size T).setRow (W.heap.size+1) (qqp x)).heap[W.heap.size]? = some (.cells T 93)∧((V.setRow W.heap.size T).setRow (W.heap.size+1) (qqp x)).heap[W.heap.size+1]? = some (.cells (qqp x) 95)∧Below W.heap.size W ((V.setRow W.heap.size T).setRow (W.heap.size+1) (qqp x)) :=
 ⟨sx (by omega) (setRow_heap _ _ _ _ _ _ h.th),setRow_heap _ _ _ _ _ _ (sx (by omega) h.flt),qah (qah h.below (by omega) _) (by omega) _⟩
theorem q6w {fn:Func}{p q:Tmp}{A:Act}{w:World}{g g2:Nat}{k n:Int}{s:ByteArray}{ks vs:Value}{F:Int×Int}{R:Ending→World→Prop}{B:Prop}(h:fn.results=#[.cell p 93,.cell q 95])(hf:w.heap[g]? = some (.cells (thA k n s ks vs) 93)∧w.heap[g2]? = some (.cells (qqp F) 95)∧B)(hp:A.tmps.getD p undef=.pointer (some ⟨g,0,none⟩))(hp2:A.tmps.getD q undef=.pointer (some ⟨g2,0,none⟩))(hd:A.defers=[])(kk:R (.returned (.tuple #[.agg (thA k n s ks vs),.agg (qqp F)])) w):bodyPost prog fn R .ret A w :=
 bodyPost_ret (qzP h _ _ g g2 _ _ _ _ _ _ _ _ hp hf.1 underlying93 rfl (qyu _ _ _ _ _) hp2 hf.2.1 underlying95 rfl (qyj _)) hd kk
def q65 (k:Nat)(bs:List UInt8)(l:Int)(W:World)(r:Except (Int×Int) (DataW Unit))(e:Ending)(W':World):Prop :=
 Below W.heap.size W W'∧match r with
 |.ok dd=>(∃kd n s a i j b p m,e=.returned (.tuple #[.agg (thA kd n s (.slice a i j) (.slice b p m)),.agg (qqp (0,0))])∧qyi k W' (fun j=>W.heap.size≤j∧j<W'.heap.size) (.agg (thA kd n s (.slice a i j) (.slice b p m))) dd)∧(bs.length:Int)≤l∧∀k,szF k dd≤400*bs.length∧TxV k dd
 |.error f=>e=.returned (.tuple #[.agg th0,.agg (qqp f)])
theorem q0H (W:World)(fm d l:Int)(bs:List UInt8)(hfm:fm=1∨fm=2∨fm=3)(hd0:0≤d)(hd2:d≤100000)(hl0:0≤l)(hb:bs.length≤200000000):Calls prog 45 #[.int .i64 fm,.int .i64 d,.int .i64 l,.string ⟨bs.toArray⟩] W (q65 (d.toNat+1) bs l W (qgE fm bs d l)):=by
 have hlm:Lm bs l l:=fun _ _=>Iff.rfl;have hi0:InR bs l (skO fm bs l 0):=by
  rcases qzr fm bs l 0 ⟨Nat.zero_le _,hl0⟩ with ⟨_,h,_⟩|⟨_,h1,h2⟩
  ·exact h
  exact⟨by omega,by omega⟩
 have HDC:Hid (∀r',qy8 bs l (thO fm bs d l (skO fm bs l 0)) r'→_):=fun r' h=>q4d fm bs d l hl0 (r':=r') h;have HBD:Hid (∀en pl,qgE fm bs d l=.error (en,pl)→en≠0):=qlS fm bs d l hd0;have cT:=fun V=>q3D V bs fm d l l (skO fm bs l 0) hfm hlm hb hd0 hd2 hi0;have cS:∀(V:World) (i:Nat),fm=1→i≤bs.length→Calls prog 69 #[.agg #[.string ⟨bs.toArray⟩,.int .i64 fm,.int .i64 d,.int .i64 l],.int .i64 i] V fun e W'=>e=.returned (.int .i64 (skO fm bs l i))∧Below V.heap.size V W':=fun V i h1 h2=>by
  have h:=qyY V bs fm d l i hb h2;unfold skO;rw[if_pos h1];exact h
 have HCB:Hid (∀(V:World) (i:Nat),Calls prog 71 #[.agg #[.string ⟨bs.toArray⟩,.int .i64 fm,.int .i64 d,.int .i64 l],.int .i64 i,.int .i64 9] V fun e W'=>e=.returned (.agg (qqp (qr0 bs l i 9)))∧Below V.heap.size V W'):=fun V i=>qzy bs fm d l V i 9;have HNS:Hid (¬fm=1→∀i,skO fm bs l i=i):=fun h i=>by unfold skO;rw[if_neg h]
 generalize qgE fm bs d l=R at *;obtain⟨p0,HP0⟩:∃p0,Hid (skO fm bs l 0=p0):=⟨_,show _=_ from rfl⟩
 rw[HP0.out] at cT HDC;by_cases hf:fm=1
 ·have e1:(fm==1)=true:=by simpa using hf
  have HF1:=qaa hf;have cS0:∀V,Calls prog 69 #[.agg #[.string ⟨bs.toArray⟩,.int .i64 fm,.int .i64 d,.int .i64 l],.int .i64 0] V fun e W'=>e=.returned (.int .i64 p0)∧Below V.heap.size V W':=fun V=>by
   have h:=cS V 0 hf (Nat.zero_le _);rw[HP0.out] at h;exact h
  have HCT:Hid (∀V,Calls prog 70 #[.agg #[.string ⟨bs.toArray⟩,.int .i64 fm,.int .i64 d,.int .i64 l],.int .i64 p0] V (qxV (d.toNat+1) bs l V (thO fm bs d l p0))):=cT;have HCS:Hid (∀(V:World) (i:Nat),i≤bs.length→Calls prog 69 #[.agg #[.string ⟨bs.toArray⟩,.int .i64 fm,.int .i64 d,.int .i64 l],.int .i64 i] V fun e W'=>e=.returned (.int .i64 (skO fm bs l i))∧Below V.heap.size V W'):=fun V i h=>cS V i HF1.out h;clear cT hi0 hlm HP0 HNS hfm hf cS hd0 hd2 hl0;go_enter func45,ntmps45
  go_wp2_with (first
   |((with_reducible refine wpList_store_row rfl 143 (.tmp 10) (.tmp 18) rfl (W.heap.size+2) (inA bs fm d l) ?hx ?hy 143 (inA [] 0 0 0) ?hg ?hi ?hs ?h1 ?_);(case hx=>exact rfl);(case hy=>exact rfl);(case hg=>exact q5y W _);(case hi=>exact q0D);(case hs=>exact q23 _ _ _ _);(case h1=>exact q4j _ _ _ _);refine nmd ?_;intro V0 E0;have HX:=qaa (E0▸q55 W _ _);clear E0;have c0:=qab HX.out.box 0;have c1:=qab HX.out.box 1;have c2:=qab HX.out.box 2;have c3:=qab HX.out.box 3;unfold inA at c0 c1 c2 c3)
   |(go_at_call 69;refine(cS0 _).mono ?_;clear cS0 c0 c1 c2 c3;rintro e w2 ⟨rfl,hB2⟩;have HX2:=qaa (HX.out.next hB2);clear hB2;have c0:=qab HX2.out.box 0;have c1:=qab HX2.out.box 1;have c2:=qab HX2.out.box 2;have c3:=qab HX2.out.box 3;unfold inA at c0 c1 c2 c3))
  refine(HCT.out _).mono ?_;clear c0 c1 c2 c3;rintro e w3 hrd;obtain⟨hB3,r',kk,nn,s,a1,i1,j1,b1,p1,m1,z,F,hlo,rfl,hA,hF⟩:=qy2 hrd;have HX3:=qaa (HX2.out.next hB3);obtain⟨hE,hO⟩:=HDC.out r' hlo;have HSZ:Hid (W.heap.size+3≤w3.heap.size):=ltA HX3.out.box;have HS2:Hid (W.heap.size+3≤w2.heap.size):=ltA HX2.out.box;clear hrd hlo HDC HCT hB3;simp only[]
  cases r' with
  |error f =>
   obtain rfl:=hF f rfl;obtain rfl:=hE F rfl;have hne:(F.1==0)=false:=by simpa using HBD.out F.1 F.2 rfl
   clear hA hF hE hO HBD
   go_wp2_with (first
    |((with_reducible refine zT 12 27 rfl rfl (w3.heap.size) (thA kk nn s (.slice a1 i1 j1) (.slice b1 p1 m1)) ?_ ?_);exact⟨rfl,rfl,(qxI w3 _ _).1,thg⟩)
    |((with_reducible refine zF 13 29 rfl rfl (w3.heap.size+1) F ?_ ?_);exact⟨rfl,rfl,sx (by omega) (qxI w3 _ _).2⟩;refine nmd ?_;intro V5 EV5;have HX5:=qaa (EV5▸HX3.out.next (qxL _ _ _ _ _));have HF5:Hid (V5.heap[w3.heap.size+1]? = some (.cells (qqp F) 95)):=EV5▸qzi;clear EV5;have u0:V5.cell? ⟨w3.heap.size+1,0,none⟩=some (.int .i64 F.1):=qab HF5.out 0))
   have hM:=HSZ.out;refine rgn (S:=fun Z=>Z.heap[w3.heap.size+1]? = some (.cells (qqp F) 95)) HF5.out (by kernel_rfl) ?_;intro hS;refine tk 0 33 (.agg th0) rfl (by kernel_rfl) iQ3 (fun Z _ => ?y0) hS ?_
   case y0=>(unfold th0 thA qxE;go_simp)
   refine tk 1 34 (.agg (qqp F)) rfl (by kernel_rfl) iQ3 (fun Z hZ=>yF 13 hZ rfl rfl) hS ?_;have hS2:=sx (cs:=th0) (show w3.heap.size+1≠W.heap.size by omega) hS;refine sTh 2 8 33 W.heap.size th0 (by kernel_rfl) HX5.out.drew.th thg hS2 ?_;refine sF 3 9 34 (W.heap.size+1) F (by kernel_rfl) (sx (by omega) HX5.out.drew.flt) (sx (by omega) hS2) ?_;refine wpAnyH_done (by kernel_rfl) ?_ _;go_simp;go_wp2;have hf:=HX5.out.drew.fin th0 F;exact q6w results45 hf rfl rfl rfl ⟨hf.2.2,rfl⟩
  |ok y =>
   obtain⟨dd,q⟩:=y;obtain⟨hq,rfl,rfl,hRf⟩:=hA dd q rfl;obtain⟨hi2,hlt,hge⟩:=hO dd q rfl hq;have HA:Hid (qyi (d.toNat+1) w3 (fun j=>W.heap.size+3≤j∧j<w3.heap.size) (.agg (thA kk nn s (.slice a1 i1 j1) (.slice b1 p1 m1))) dd):=hRf.same (fun j hj=>⟨by have:=HS2.out;omega,hj.2⟩) (fun _ _=>rfl);have hqb:=hq.1;clear hA hF hE hO HBD hRf;have cS1:=fun V=>HCS.out V q hqb;obtain⟨p2,HP2⟩:∃p2,Hid (skO fm bs l q=p2):=⟨_,show _=_ from rfl⟩
   rw[HP2.out] at cS1 hi2 hlt hge;by_cases hp2:p2<bs.length
   ·obtain rfl:=hlt hp2;have hlt2:(p2:Int)<(bs.length:Int):=by omega
    have cB:=fun V=>HCB.out V p2;generalize qr0 bs l p2 9=F at *;clear hlt hge HA hq
    go_wp2_with (first
     |((with_reducible refine zT 12 27 rfl rfl (w3.heap.size) (thA kk nn s (.slice a1 i1 j1) (.slice b1 p1 m1)) ?_ ?_);exact⟨rfl,rfl,(qxI w3 _ _).1,thg⟩)
     |((with_reducible refine zF 13 29 rfl rfl (w3.heap.size+1) (0,0) ?_ ?_);exact⟨rfl,rfl,sx (by omega) (qxI w3 _ _).2⟩;refine nmd ?_;intro V5 EV5;have HX5:=qaa (EV5▸HX3.out.next (qxL _ _ _ _ _));have HF5:Hid (V5.heap[w3.heap.size+1]? = some (.cells (qqp (0,0)) 95)):=EV5▸qzi;have HG5:Hid (V5.heap[w3.heap.size]? = some (.cells (thA kk nn s (.slice a1 i1 j1) (.slice b1 p1 m1)) 93)):=EV5▸q0p;have HB5:=qaa (EV5▸qxL _ _ _ _ _);clear EV5;have u0:V5.cell? ⟨w3.heap.size+1,0,none⟩=some (.int .i64 0):=qab HF5.out 0;have c0:=qab HX5.out.box 0;have c1:=qab HX5.out.box 1;have c2:=qab HX5.out.box 2;have c3:=qab HX5.out.box 3;unfold inA at c0 c1 c2 c3)
     |(go_at_call 69;refine(cS1 _).mono ?_;clear cS1 c0 c1 c2 c3 u0;rintro e w6 ⟨rfl,hB6⟩;have HX6:=qaa (HX5.out.next hB6);have HB6:=qaa (HB5.out.trans (hB6.mono HB5.out.size));have HG6:=qaa ((hB6.block _ (ltA HG5.out)).trans HG5.out);clear hB6;have c0:=qab HX6.out.box 0;have c1:=qab HX6.out.box 1;have c2:=qab HX6.out.box 2;have c3:=qab HX6.out.box 3;unfold inA at c0 c1 c2 c3)
     |(go_at_call 71;refine(cB _).mono ?_;clear cB c0 c1 c2 c3;rintro e w7 ⟨rfl,hB7⟩;have HX7:=qaa (HX6.out.next hB7);clear hB7)
     |((with_reducible refine zT 8 44 rfl rfl W.heap.size th0 ?_ ?_);exact⟨rfl,rfl,HX7.out.th,thg⟩)
     |((with_reducible refine zF 9 47 rfl rfl (W.heap.size+1) F ?_ ?_);exact⟨rfl,rfl,sx (by omega) HX7.out.flt⟩))
    have hf:=HX7.out.fin th0 F;exact q6w results45 hf rfl rfl rfl ⟨hf.2.2,rfl⟩
   obtain⟨rfl,h6,h7⟩:=hge hp2;have H67:=qaa (And.intro h6 h7);have hlt2:¬(p2:Int)<(bs.length:Int):=by omega
   clear hlt hge h6 h7 hq HCB
   go_wp2_with (first
    |((with_reducible refine zT 12 27 rfl rfl (w3.heap.size) (thA kk nn s (.slice a1 i1 j1) (.slice b1 p1 m1)) ?_ ?_);exact⟨rfl,rfl,(qxI w3 _ _).1,thg⟩)
    |((with_reducible refine zF 13 29 rfl rfl (w3.heap.size+1) (0,0) ?_ ?_);exact⟨rfl,rfl,sx (by omega) (qxI w3 _ _).2⟩;refine nmd ?_;intro V5 EV5;have HX5:=qaa (EV5▸HX3.out.next (qxL _ _ _ _ _));have HF5:Hid (V5.heap[w3.heap.size+1]? = some (.cells (qqp (0,0)) 95)):=EV5▸qzi;have HG5:Hid (V5.heap[w3.heap.size]? = some (.cells (thA kk nn s (.slice a1 i1 j1) (.slice b1 p1 m1)) 93)):=EV5▸q0p;have HB5:=qaa (EV5▸qxL _ _ _ _ _);clear EV5;have u0:V5.cell? ⟨w3.heap.size+1,0,none⟩=some (.int .i64 0):=qab HF5.out 0;have c0:=qab HX5.out.box 0;have c1:=qab HX5.out.box 1;have c2:=qab HX5.out.box 2;have c3:=qab HX5.out.box 3;unfold inA at c0 c1 c2 c3)
    |(go_at_call 69;refine(cS1 _).mono ?_;clear cS1 c0 c1 c2 c3 u0;rintro e w6 ⟨rfl,hB6⟩;have HX6:=qaa (HX5.out.next hB6);have HB6:=qaa (HB5.out.trans (hB6.mono HB5.out.size));have HG6:=qaa ((hB6.block _ (ltA HG5.out)).trans HG5.out);clear hB6;have c0:=qab HX6.out.box 0;have c1:=qab HX6.out.box 1;have c2:=qab HX6.out.box 2;have c3:=qab HX6.out.box 3;unfold inA at c0 c1 c2 c3)
    |((with_reducible refine wpList_load_row rfl 93 (.tmp 12) rfl (w3.heap.size) ?hx 93 (thA kk nn s (.slice a1 i1 j1) (.slice b1 p1 m1)) (0,0) _ ?hg underlying93 rfl ?hi ?_);(case hx=>exact rfl);(case hg=>exact HG6.out);(case hi=>exact qyu _ _ _ _ _))
    |((with_reducible refine zT 8 48 rfl rfl W.heap.size (thA kk nn s (.slice a1 i1 j1) (.slice b1 p1 m1)) ?_ ?_);exact⟨rfl,rfl,HX6.out.th,thg⟩)
    |((with_reducible refine zF 9 49 rfl rfl (W.heap.size+1) (0,0) ?_ ?_);exact⟨rfl,rfl,sx (by omega) HX6.out.flt⟩))
   have hf:=HX6.out.fin (thA kk nn s (.slice a1 i1 j1) (.slice b1 p1 m1)) (0,0);refine q6w results45 hf rfl rfl rfl ⟨hf.2.2,⟨_,_,_,_,_,_,_,_,_,rfl,?_⟩,H67.out⟩;refine HA.out.same (fun j hj=>⟨by omega,?_⟩) (fun j hj => ?_)
   rotate_left
   ·have h1:=HB6.out.size;have h2:=hj.2;show j<((w6.setRow W.heap.size (thA kk nn s (.slice a1 i1 j1) (.slice b1 p1 m1))).setRow (W.heap.size+1) (qqp (0,0))).heap.size;rw[q4q];omega
   have h1:=hj.1;have h2:=hj.2;exact(sx (show j≠W.heap.size+1 by omega) (sx (show j≠W.heap.size by omega) rfl)).trans (HB6.out.block j h2)
 have e1:(fm==1)=false:=by simpa using hf
 have HF1:=qaa hf;obtain rfl:0=p0:=(HNS.out hf 0).symm.trans HP0.out;have HCT:Hid (∀V,Calls prog 70 #[.agg #[.string ⟨bs.toArray⟩,.int .i64 fm,.int .i64 d,.int .i64 l],.int .i64 0] V (qxV (d.toNat+1) bs l V (thO fm bs d l 0))):=cT;clear cT hi0 hlm HP0 cS hfm hf hd0 hd2 hl0;go_enter func45,ntmps45
 go_wp2_with (first
  |((with_reducible refine wpList_store_row rfl 143 (.tmp 10) (.tmp 18) rfl (W.heap.size+2) (inA bs fm d l) ?hx ?hy 143 (inA [] 0 0 0) ?hg ?hi ?hs ?h1 ?_);(case hx=>exact rfl);(case hy=>exact rfl);(case hg=>exact q5y W _);(case hi=>exact q0D);(case hs=>exact q23 _ _ _ _);(case h1=>exact q4j _ _ _ _);refine nmd ?_;intro V0 E0;have HX:=qaa (E0▸q55 W _ _);clear E0;have c0:=qab HX.out.box 0;have c1:=qab HX.out.box 1;have c2:=qab HX.out.box 2;have c3:=qab HX.out.box 3;unfold inA at c0 c1 c2 c3))
 refine(HCT.out _).mono ?_;clear c0 c1 c2 c3;rintro e w3 hrd;obtain⟨hB3,r',kk,nn,s,a1,i1,j1,b1,p1,m1,z,F,hlo,rfl,hA,hF⟩:=qy2 hrd;have HX3:=qaa (HX.out.next hB3);obtain⟨hE,hO⟩:=HDC.out r' hlo;have HSZ:Hid (W.heap.size+3≤w3.heap.size):=ltA HX3.out.box;have HS2:Hid (W.heap.size+3≤V0.heap.size):=ltA HX.out.box;clear hrd hlo HDC HCT hB3;simp only[]
 cases r' with
 |error f =>
  obtain rfl:=hF f rfl;obtain rfl:=hE F rfl;have hne:(F.1==0)=false:=by simpa using HBD.out F.1 F.2 rfl
  clear hA hF hE hO HBD
  go_wp2_with (first
   |((with_reducible refine zT 12 27 rfl rfl (w3.heap.size) (thA kk nn s (.slice a1 i1 j1) (.slice b1 p1 m1)) ?_ ?_);exact⟨rfl,rfl,(qxI w3 _ _).1,thg⟩)
   |((with_reducible refine zF 13 29 rfl rfl (w3.heap.size+1) F ?_ ?_);exact⟨rfl,rfl,sx (by omega) (qxI w3 _ _).2⟩;refine nmd ?_;intro V5 EV5;have HX5:=qaa (EV5▸HX3.out.next (qxL _ _ _ _ _));have HF5:Hid (V5.heap[w3.heap.size+1]? = some (.cells (qqp F) 95)):=EV5▸qzi;clear EV5;have u0:V5.cell? ⟨w3.heap.size+1,0,none⟩=some (.int .i64 F.1):=qab HF5.out 0))
  have hM:=HSZ.out;refine rgn (S:=fun Z=>Z.heap[w3.heap.size+1]? = some (.cells (qqp F) 95)) HF5.out (by kernel_rfl) ?_;intro hS;refine tk 0 33 (.agg th0) rfl (by kernel_rfl) iQ3 (fun Z _ => ?y0) hS ?_
  case y0=>(unfold th0 thA qxE;go_simp)
  refine tk 1 34 (.agg (qqp F)) rfl (by kernel_rfl) iQ3 (fun Z hZ=>yF 13 hZ rfl rfl) hS ?_;have hS2:=sx (cs:=th0) (show w3.heap.size+1≠W.heap.size by omega) hS;refine sTh 2 8 33 W.heap.size th0 (by kernel_rfl) HX5.out.drew.th thg hS2 ?_;refine sF 3 9 34 (W.heap.size+1) F (by kernel_rfl) (sx (by omega) HX5.out.drew.flt) (sx (by omega) hS2) ?_;refine wpAnyH_done (by kernel_rfl) ?_ _;go_simp;go_wp2;have hf:=HX5.out.drew.fin th0 F;exact q6w results45 hf rfl rfl rfl ⟨hf.2.2,rfl⟩
 |ok y =>
  obtain⟨dd,q⟩:=y;obtain⟨hq,rfl,rfl,hRf⟩:=hA dd q rfl;obtain⟨hi2,hlt,hge⟩:=hO dd q rfl hq;have HA:Hid (qyi (d.toNat+1) w3 (fun j=>W.heap.size+3≤j∧j<w3.heap.size) (.agg (thA kk nn s (.slice a1 i1 j1) (.slice b1 p1 m1))) dd):=hRf.same (fun j hj=>⟨by have:=HS2.out;omega,hj.2⟩) (fun _ _=>rfl);have hqb:=hq.1;clear hA hF hE hO HBD hRf;rw[HNS.out HF1.out q] at hi2 hlt hge;by_cases hp2:q<bs.length
  ·obtain rfl:=hlt hp2;have hlt2:(q:Int)<(bs.length:Int):=by omega
   have cB:=fun V=>HCB.out V q;generalize qr0 bs l q 9=F at *;clear hlt hge HA hq
   go_wp2_with (first
    |((with_reducible refine zT 12 27 rfl rfl (w3.heap.size) (thA kk nn s (.slice a1 i1 j1) (.slice b1 p1 m1)) ?_ ?_);exact⟨rfl,rfl,(qxI w3 _ _).1,thg⟩)
    |((with_reducible refine zF 13 29 rfl rfl (w3.heap.size+1) (0,0) ?_ ?_);exact⟨rfl,rfl,sx (by omega) (qxI w3 _ _).2⟩;refine nmd ?_;intro V5 EV5;have HX5:=qaa (EV5▸HX3.out.next (qxL _ _ _ _ _));have HF5:Hid (V5.heap[w3.heap.size+1]? = some (.cells (qqp (0,0)) 95)):=EV5▸qzi;have HG5:Hid (V5.heap[w3.heap.size]? = some (.cells (thA kk nn s (.slice a1 i1 j1) (.slice b1 p1 m1)) 93)):=EV5▸q0p;have HB5:=qaa (EV5▸qxL _ _ _ _ _);clear EV5;have u0:V5.cell? ⟨w3.heap.size+1,0,none⟩=some (.int .i64 0):=qab HF5.out 0;have c0:=qab HX5.out.box 0;have c1:=qab HX5.out.box 1;have c2:=qab HX5.out.box 2;have c3:=qab HX5.out.box 3;unfold inA at c0 c1 c2 c3)
    |(go_at_call 71;refine(cB _).mono ?_;clear cB c0 c1 c2 c3;rintro e w7 ⟨rfl,hB7⟩;have HX7:=qaa (HX5.out.next hB7);clear hB7)
    |((with_reducible refine zT 8 44 rfl rfl W.heap.size th0 ?_ ?_);exact⟨rfl,rfl,HX7.out.th,thg⟩)
    |((with_reducible refine zF 9 47 rfl rfl (W.heap.size+1) F ?_ ?_);exact⟨rfl,rfl,sx (by omega) HX7.out.flt⟩))
   have hf:=HX7.out.fin th0 F;exact q6w results45 hf rfl rfl rfl ⟨hf.2.2,rfl⟩
  obtain⟨rfl,h6,h7⟩:=hge hp2;have H67:=qaa (And.intro h6 h7);have hlt2:¬(q:Int)<(bs.length:Int):=by omega
  clear hlt hge h6 h7 hq HCB
  go_wp2_with (first
   |((with_reducible refine zT 12 27 rfl rfl (w3.heap.size) (thA kk nn s (.slice a1 i1 j1) (.slice b1 p1 m1)) ?_ ?_);exact⟨rfl,rfl,(qxI w3 _ _).1,thg⟩)
   |((with_reducible refine zF 13 29 rfl rfl (w3.heap.size+1) (0,0) ?_ ?_);exact⟨rfl,rfl,sx (by omega) (qxI w3 _ _).2⟩;refine nmd ?_;intro V5 EV5;have HX5:=qaa (EV5▸HX3.out.next (qxL _ _ _ _ _));have HF5:Hid (V5.heap[w3.heap.size+1]? = some (.cells (qqp (0,0)) 95)):=EV5▸qzi;have HG5:Hid (V5.heap[w3.heap.size]? = some (.cells (thA kk nn s (.slice a1 i1 j1) (.slice b1 p1 m1)) 93)):=EV5▸q0p;have HB5:=qaa (EV5▸qxL _ _ _ _ _);clear EV5;have u0:V5.cell? ⟨w3.heap.size+1,0,none⟩=some (.int .i64 0):=qab HF5.out 0;have c0:=qab HX5.out.box 0;have c1:=qab HX5.out.box 1;have c2:=qab HX5.out.box 2;have c3:=qab HX5.out.box 3;unfold inA at c0 c1 c2 c3)
   |((with_reducible refine wpList_load_row rfl 93 (.tmp 12) rfl (w3.heap.size) ?hx 93 (thA kk nn s (.slice a1 i1 j1) (.slice b1 p1 m1)) (0,0) _ ?hg underlying93 rfl ?hi ?_);(case hx=>exact rfl);(case hg=>exact HG5.out);(case hi=>exact qyu _ _ _ _ _))
   |((with_reducible refine zT 8 48 rfl rfl W.heap.size (thA kk nn s (.slice a1 i1 j1) (.slice b1 p1 m1)) ?_ ?_);exact⟨rfl,rfl,HX5.out.th,thg⟩)
   |((with_reducible refine zF 9 49 rfl rfl (W.heap.size+1) (0,0) ?_ ?_);exact⟨rfl,rfl,sx (by omega) HX5.out.flt⟩))
  have hf:=HX5.out.fin (thA kk nn s (.slice a1 i1 j1) (.slice b1 p1 m1)) (0,0);refine q6w results45 hf rfl rfl rfl ⟨hf.2.2,⟨_,_,_,_,_,_,_,_,_,rfl,?_⟩,H67.out⟩;refine HA.out.same (fun j hj=>⟨by omega,?_⟩) (fun j hj => ?_)
  rotate_left
  ·have h1:=HB5.out.size;have h2:=hj.2;show j<((V5.setRow W.heap.size (thA kk nn s (.slice a1 i1 j1) (.slice b1 p1 m1))).setRow (W.heap.size+1) (qqp (0,0))).heap.size;rw[q4q];omega
  have h1:=hj.1;have h2:=hj.2;exact(sx (show j≠W.heap.size+1 by omega) (sx (show j≠W.heap.size by omega) rfl)).trans (HB5.out.block j h2)
end
end Go.Proofs.YtllcbnfmihfaaaaGreatDoor
