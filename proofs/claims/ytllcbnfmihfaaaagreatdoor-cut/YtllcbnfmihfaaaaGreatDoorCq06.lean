import Derived.Test.YtllcbnfmihfaaaaGreatDoorCq03
import Derived.Test.YtllcbnfmihfaaaaGreatDoorCq02
set_option maxRecDepth 100000
set_option maxHeartbeats 8000000
namespace Go.Proofs.YtllcbnfmihfaaaaGreatDoor
open Go.Proofs.Tryz
variable {s:Nat}{W W0:World}{arr:Array Value}{ea:Option Addr}{L:List (Int×Int)}
section
open Go.RowKit
def qqh (c:UInt8):Option Nat:=if qcQ c=true then some (c.toNat-48) else if 97≤c.toNat∧c.toNat≤102 then some (c.toNat-87) else if 65≤c.toNat∧c.toNat≤70 then some (c.toNat-55) else none
theorem qnW {c:UInt8}{d:Nat}(h:qqh c=some d):d<16:=by
 unfold qqh at h;split at h
 ·next hd=>have:=of_decide_eq_true hd;cases h;omega
 split at h
 ·cases h;omega
 split at h
 ·cases h;omega
 cases h
def qqq (c:UInt8):Value:=match qqh c with
 |some d=>.tuple #[.int .i32 d,.bool true]
 |none=>.tuple #[.int .i32 0,.bool false]
theorem qkh (c:UInt8)(w:World):Calls prog 324 #[.int .u8 c.toNat] w fun e w'=>e=.returned (qqq c)∧w'=w:=by
 have cD:=qbg c w;have hlt:=c.toNat_lt;by_cases hd:48≤(c.toNat:Int)∧(c.toNat:Int)≤57
 ·have HA:Hid (qqq c=.tuple #[.int .i32 ((c.toNat:Int)-48),.bool true]):=by
   show _=_;unfold qqq qqh;rw[if_pos (show qcQ c=true from decide_eq_true hd)];simp only[];rw[show((c.toNat-48:Nat):Int)=(c.toNat:Int)-48 by omega]
  have hd2:=decide_eq_true hd;rw[hd2] at cD;go_enter func324,ntmps324
  go_wp2_with (first|(go_at_call 302;refine cD.mono ?_;rintro e w2 ⟨rfl,rfl⟩))
  go_ret2
  rw[HA.out];exact⟨rfl,rfl⟩
 have hd2:=decide_eq_false hd;have hd3:qcQ c=false:=hd2;rw[hd2] at cD;by_cases h1:97≤c.toNat∧c.toNat≤102
 ·have HA:Hid (qqq c=.tuple #[.int .i32 ((c.toNat:Int)-97+10),.bool true]):=by
   show _=_;unfold qqq qqh;rw[if_neg (by rw[hd3];simp),if_pos h1];simp only[];rw[show((c.toNat-87:Nat):Int)=(c.toNat:Int)-97+10 by omega]
  have e1:decide (97≤(c.toNat:Int))=true:=by simp;omega
  have e2:decide ((c.toNat:Int)≤102)=true:=by simp;omega
  go_enter func324,ntmps324
  go_wp2_with (first|(go_at_call 302;refine cD.mono ?_;rintro e w2 ⟨rfl,rfl⟩))
  go_ret2
  rw[HA.out];exact⟨rfl,rfl⟩
 by_cases h2:65≤c.toNat∧c.toNat≤70
 ·have HA:Hid (qqq c=.tuple #[.int .i32 ((c.toNat:Int)-65+10),.bool true]):=by
   show _=_;unfold qqq qqh;rw[if_neg (by rw[hd3];simp),if_neg h1,if_pos h2];simp only[];rw[show((c.toNat-55:Nat):Int)=(c.toNat:Int)-65+10 by omega]
  have e1:decide (97≤(c.toNat:Int))=false:=by simp;omega
  have e3:decide (65≤(c.toNat:Int))=true:=by simp;omega
  have e4:decide ((c.toNat:Int)≤70)=true:=by simp;omega
  go_enter func324,ntmps324
  go_wp2_with (first|(go_at_call 302;refine cD.mono ?_;rintro e w2 ⟨rfl,rfl⟩))
  go_ret2
  rw[HA.out];exact⟨rfl,rfl⟩
 have HA:Hid (qqq c=.tuple #[.int .i32 0,.bool false]):=by
  show _=_;unfold qqq qqh;rw[if_neg (by rw[hd3];simp),if_neg h1,if_neg h2]
 go_enter func324,ntmps324
 go_wp2_with (first|(go_at_call 302;refine cD.mono ?_;rintro e w2 ⟨rfl,rfl⟩))
 all_goals first
  |(exfalso;omega)
  |(go_ret2;rw[HA.out];exact⟨rfl,rfl⟩)
def qgA (bs:List UInt8)(lim:Int):Nat→Nat→Nat→Except (Int×Int) (Nat×Nat)
 |0,p,a=>.ok (a,p)
 |k+1,p,a=>match bs[p]? with
  |none=>.error (9,p)
  |some c=>if (p:Int)=lim then .error (8,p) else match qqh c with
   |none=>.error (9,p)
   |some d=>qgA bs lim k (p+1) (a*16+d)
theorem qgd (W:World)(b:Nat)(s:Src)(h:qad W b s):Calls prog 320 #[.agg #[.pointer (some ⟨b,0,none⟩)]] W (qbJ W b s (fun x:Nat=>.int .i32 x) (qgA s.bs s.lim 4 s.pos 0)):=by
 have HX0:=qaa (qaR h);obtain⟨R,HR⟩:∃R,Hid (qgA s.bs s.lim 4 s.pos 0=R):=⟨_,show _=_ from rfl⟩
 rw[HR.out];go_enter func320,ntmps320;go_wp2;generalize W.alloc (.cells #[.pointer (some ⟨b,0,none⟩)] 198)=W0 at *
 go_loopg [3,6] 4 (fun m y z wr=>∃(k acc:Nat),y=.int .i32 acc∧z=.int .i64 k∧Hid (m+k=4)∧Hid (acc<16^k)∧Hid (qno W b W.heap.size {s with pos:=s.pos+k} wr)∧Hid (qgA s.bs s.lim m (s.pos+k) acc=R))
 case atStart=>exact⟨0,0,rfl,rfl,rfl,by show 0<1;decide,HX0,HR⟩
 case round =>
  obtain⟨k,acc,rfl,rfl,hm,ha,HX,HR⟩:=hrel;have kb:=HX.out.cell
  cases gk with
  |zero =>
   have e:k=4:=by have:=hm.out;omega
   subst e;have HE:Hid (R=.ok (acc,s.pos+4)):=HR.out.symm;go_wp2;go_ret;rw[HE.out];exact⟨HX.out.but,rfl,HX.out.src⟩
  |succ m =>
   have hlt:k<4:=by have:=hm.out;omega
   have hlt2:decide ((k:Int)<4)=true:=by simp;omega
   have hacc4:acc<4096:=Nat.lt_of_lt_of_le ha.out (Nat.le_trans (Nat.pow_le_pow_right (by decide) (show k≤3 from by omega)) (by decide));rcases qaM HX.out.src with h1|h1|⟨c,h1⟩
   ·have HE:Hid (R=.error (9,((s.pos+k:Nat):Int))):=by
     show _=_;rw[←HR.out,qgA,List.getElem?_eq_none (by have:s.pos+k=s.bs.length:=h1;omega)]
    have cT:=qbm _ b {s with pos:=s.pos+k} HX.out.src h1
    go_wp2_with (first
     |(go_at_call 294;refine cT.mono ?_;rintro e w2 ⟨hF,hB⟩;obtain rfl:=hF))
    rw[HE.out];exact⟨rfl,HX.out.but.trans (But.of_below hB),rfl⟩
   ·have HE:Hid (R=.error (8,((s.pos+k:Nat):Int))):=by
     show _=_;have h2:((s.pos+k:Nat):Int)=s.lim:=h1.2;have h3:s.pos+k<s.bs.length:=h1.1;rw[←HR.out,qgA,List.getElem?_eq_getElem h3];simp only[];rw[if_pos h2]
    have cT:=qaP _ b {s with pos:=s.pos+k} HX.out.src h1
    go_wp2_with (first
     |(go_at_call 294;refine cT.mono ?_;rintro e w2 ⟨hF,hB⟩;obtain rfl:=hF))
    rw[HE.out];exact⟨rfl,HX.out.but.trans (But.of_below hB),rfl⟩
   have hc1:s.bs[s.pos+k]? = some c:=h1.1;have hc2:¬((s.pos+k:Nat):Int)=s.lim:=h1.2;have hr:=HR.out;rw[qgA,hc1] at hr;simp only[] at hr;rw[if_neg hc2] at hr;have cH:=fun w=>qkh c w;unfold qqq at cH;have cT:Calls prog 294 #[.pointer (some ⟨b,0,none⟩)] wr fun e W'=>e=.returned (.int .u8 c.toNat)∧qad W' b {s with pos:=s.pos+(k+1)}∧But b wr W':=qau _ b {s with pos:=s.pos+k} c HX.out.src h1;rcases hv:qqh c with _|d
   ·rw[hv] at hr cH;have HE:Hid (R=.error (9,((s.pos+k:Nat):Int))):=hr.symm
    go_wp2_with (first
     |(go_at_call 294;refine cT.mono ?_;rintro e w2 ⟨rfl,hS,hB⟩;have HX2:=qaa (HX.out.step hS hB);have kb:=HX2.out.cell)
     |(go_at_call 324;refine(cH _).mono ?_;rintro e w3 ⟨rfl,rfl⟩)
     |(go_at_call 295;refine(qat _ b {s with pos:=s.pos+(k+1)} _ HX2.out.src).mono ?_;rintro e w7 ⟨hF,rfl⟩;obtain rfl:=hF))
    rw[HE.out];exact⟨rfl,HX2.out.but,by show qao _ _ _;unfold qao qeh;simp;omega⟩
   rw[hv] at hr cH;have HN:Hid (qgA s.bs s.lim m (s.pos+(k+1)) (acc*16+d)=R):=hr;have hd:=qnW hv;have HA:Hid (acc*16+d<16^(k+1)):=by show _<_;rw[Nat.pow_succ];have:=ha.out;omega
   go_wp2_with (first
    |(go_at_call 294;refine cT.mono ?_;rintro e w2 ⟨rfl,hS,hB⟩;have HX2:=qaa (HX.out.step hS hB))
    |(go_at_call 324;refine(cH _).mono ?_;rintro e w3 ⟨rfl,rfl⟩))
   go_roundg m
   case measure=>omega
   case rel=>exact⟨k+1,acc*16+d,by simp,by go_num,by show _=_;have:=hm.out;omega,HA,HX2,HN⟩
end
section
open Go.RowKit Go.Deep
theorem qmk (arr:Array Value)(c:Int)(L:List (Int×Int))(ea:Option Addr)(ecap:Nat)(f0:arr[0]? = some (.int .i64 c))(f1:arr[1]? = some (.slice ea L.length ecap))(hL:L.length≤maxLen)(w:World)(hc:¬(1≤c∧c≤6∧L.length≤30)):Calls prog 75 #[.agg arr] w fun e w'=>e=.returned (.bool false)∧Below w.heap.size w w':=by
 unfold maxLen at hL;have key:c<1∨(1≤c∧6<c)∨(1≤c∧c≤6∧(30:Int)<L.length):=by omega
 clear hc;rcases key with h|⟨h,h2⟩|⟨h,h2,h3⟩
 all_goals
  go_enter func75,ntmps75;go_wp2;go_ret;exact⟨rfl,bwA⟩
theorem qnB (arr:Array Value)(n:Nat)(L:List (Int×Int))(ea:Option Addr)(ecap:Nat)(H:qxo arr n L ea ecap)(h1:1≤n)(hn:n≤6)(hL:L.length≤30)(w:World)(hA:qaY w ea L):Calls prog 75 #[.agg arr] w fun e w'=>e=.returned (.bool (qaO n L))∧Below w.heap.size w w':=by
 have f0:=H.f0;have f1:=H.f1;have HI:=qaa (qaV H.size);have HE:=qaa hA;clear H hA;have HW0:Hid ((w.alloc (.cells arr 45)).heap[w.heap.size]? = some (.cells arr 45)):=qac _ _;have HB0:Hid (Below w.heap.size w (w.alloc (.cells arr 45))):=bwA;have HS0:Hid ((w.alloc (.cells arr 45)).heap.size=w.heap.size+1):=by show _=_;simp
 go_enter func75,ntmps75;go_wp2;generalize w.alloc (.cells arr 45)=W0 at *
 go_loopg [3,4] L.length (fun g x y wr=>∃q:Nat,Hid (q+g=L.length)∧x=.int .i64 q∧Below (w.heap.size+1) W0 wr∧Hid (∀i (h:i<L.length),i<q→qcu n L[i]=true))
 case atStart=>exact⟨0,by show _=_;omega,rfl,Below.refl _ _,fun i h hi=>by omega⟩
 case round =>
  obtain⟨q,hq,rfl,hB,HA⟩:=hrel;have HW:=qaa ((hB.block _ (by omega)).trans HW0.out);have hc1:=(qab HW.out 1).trans f1;have hz:=hB.size;rw[HS0.out] at hz
  cases gk with
  |zero =>
   have hql:¬(q:Int)<L.length:=by have:=hq.out;omega
   have HY:=qaa (qhi (fun i h=>HA.out i h (by have:=hq.out;omega)));go_wp2;go_ret;exact⟨by rw[HY.out];rfl,HB0.out.trans (hB.mono (by omega))⟩
  |succ g =>
   have hql:(q:Int)<L.length:=by have:=hq.out;omega
   obtain⟨b,off,rfl,hlt,e1,e2⟩:=(HE.out.below (HB0.out.trans (hB.mono (by omega)))).at_ q (by omega);have HX:Hid ((wr.alloc (.cells #[.int .i64 L[q].1,.int .i64 L[q].2] 101)).heap[wr.heap.size]? = some (.cells #[.int .i64 L[q].1,.int .i64 L[q].2] 101)):=qac _ _;have HC:Hid ((wr.alloc (.cells #[.int .i64 L[q].1,.int .i64 L[q].2] 101)).heap[w.heap.size]? = some (.cells arr 45)):=(Below.heap_alloc _ _ _ (by omega)).trans HW.out;have HV:Hid (qcu n L[q]=qcu n (L[q].1,L[q].2)):=rfl;have c1:=qc4 arr n f0 L[q].1 (wr.alloc (.cells #[.int .i64 L[q].1,.int .i64 L[q].2] 101));generalize L[q].1=x at *;generalize L[q].2=y at *;have HBB:Hid (Below (w.heap.size+1) W0 (wr.alloc (.cells #[.int .i64 x,.int .i64 y] 101))):=hB.alloc hz _;clear HW hB;cases hx:qbC n x
   ·rw[hx] at c1;have HF:Hid (qaO n L=false):=qc3 (k:=q) (by omega) (by rw[HV.out];unfold qcu;rw[hx];rfl);clear hx HV
    go_wp2_with (first
     |(refine wpList_load_row rfl 45 _ rfl _ rfl _ _ _ _ HC.out underlying45 rfl HI.out ?_)
     |(go_at_call 76;refine c1.mono ?_;clear c1;rintro e w2 ⟨rfl,hB2⟩))
    go_ret;exact⟨by rw[HF.out];rfl,(HB0.out.trans (HBB.out.mono (by omega))).trans (hB2.mono (by simp;omega))⟩
   rw[hx] at c1;have HXT:=qaa hx;clear hx;cases hy:qbC n y
   ·have HF:Hid (qaO n L=false):=qc3 (k:=q) (by omega) (by rw[HV.out];unfold qcu;rw[hy,HXT.out];rfl);have HYT:=qaa hy;clear hy HV
    go_wp2_with (first
     |(refine wpList_load_row rfl 45 _ rfl _ rfl _ _ _ _ HC.out underlying45 rfl HI.out ?_)
     |(refine qaf 45 _ rfl rfl _ rfl _ _ _ _ HC.out underlying45 rfl HI.out ?_)
     |(go_at_call 76;refine c1.mono ?_;clear c1;rintro e w2 ⟨rfl,hB2⟩;have HC2:=qaa ((hB2.block _ (by simp;omega)).trans HC.out);clear HC;have HC:=HC2;clear HC2;have HX2:=qaa ((hB2.block _ (by simp)).trans HX.out);have hf0:=qab HX2.out 0;have hf1:=qab HX2.out 1;have c2:=qc4 arr n f0 y w2;rw[HYT.out] at c2)
     |(go_at_call 76;refine c2.mono ?_;clear c2;rintro e w3 ⟨rfl,hB3⟩;clear hf0 hf1;have hf0:=(qab ((hB3.block _ (ltA HX2.out)).trans HX2.out) 0);have hf1:=(qab ((hB3.block _ (ltA HX2.out)).trans HX2.out) 1)))
    have hz2:=hB2.size;rw[World.size_alloc] at hz2;go_ret;exact⟨by rw[HF.out];rfl,((HB0.out.trans (HBB.out.mono (by omega))).trans (hB2.mono (by simp;omega))).trans (hB3.mono (by omega))⟩
   have HYT:=qaa hy;clear hy;cases hxy:(x==y)
   ·have HF:Hid (qcu n L[q]=true):=by show _=_;rw[HV.out];unfold qcu;rw[HYT.out,HXT.out,hxy];rfl
    clear HV
    go_wp2_with (first
    |(refine wpList_load_row rfl 45 _ rfl _ rfl _ _ _ _ HC.out underlying45 rfl HI.out ?_)
    |(refine qaf 45 _ rfl rfl _ rfl _ _ _ _ HC.out underlying45 rfl HI.out ?_)
    |(go_at_call 76;refine c1.mono ?_;clear c1;rintro e w2 ⟨rfl,hB2⟩;have HC2:=qaa ((hB2.block _ (by simp;omega)).trans HC.out);clear HC;have HC:=HC2;clear HC2;have HX2:=qaa ((hB2.block _ (by simp)).trans HX.out);have hf0:=qab HX2.out 0;have hf1:=qab HX2.out 1;have c2:=qc4 arr n f0 y w2;rw[HYT.out] at c2)
    |(go_at_call 76;refine c2.mono ?_;clear c2;rintro e w3 ⟨rfl,hB3⟩;clear hf0 hf1;have hf0:=(qab ((hB3.block _ (ltA HX2.out)).trans HX2.out) 0);have hf1:=(qab ((hB3.block _ (ltA HX2.out)).trans HX2.out) 1)))
    have hz2:=hB2.size;rw[World.size_alloc] at hz2;go_roundg g
    case measure=>omega
    case rel =>
     refine⟨q+1,by show _=_;have:=hq.out;omega,by go_num,(HBB.out.trans (hB2.mono (by simp;omega))).trans (hB3.mono (by omega)),?_⟩;intro i' h' hi';by_cases e:i'=q
     ·subst e;exact HF.out
     exact HA.out i' h' (by omega)
   have HF:Hid (qaO n L=false):=qc3 (k:=q) (by omega) (by rw[HV.out];unfold qcu;rw[HYT.out,HXT.out,hxy];rfl);clear HV
   go_wp2_with (first
   |(refine wpList_load_row rfl 45 _ rfl _ rfl _ _ _ _ HC.out underlying45 rfl HI.out ?_)
   |(refine qaf 45 _ rfl rfl _ rfl _ _ _ _ HC.out underlying45 rfl HI.out ?_)
   |(go_at_call 76;refine c1.mono ?_;clear c1;rintro e w2 ⟨rfl,hB2⟩;have HC2:=qaa ((hB2.block _ (by simp;omega)).trans HC.out);clear HC;have HC:=HC2;clear HC2;have HX2:=qaa ((hB2.block _ (by simp)).trans HX.out);have hf0:=qab HX2.out 0;have hf1:=qab HX2.out 1;have c2:=qc4 arr n f0 y w2;rw[HYT.out] at c2)
   |(go_at_call 76;refine c2.mono ?_;clear c2;rintro e w3 ⟨rfl,hB3⟩;clear hf0 hf1;have hf0:=(qab ((hB3.block _ (ltA HX2.out)).trans HX2.out) 0);have hf1:=(qab ((hB3.block _ (ltA HX2.out)).trans HX2.out) 1)))
   have hz2:=hB2.size;rw[World.size_alloc] at hz2;go_ret;exact⟨by rw[HF.out];rfl,((HB0.out.trans (HBB.out.mono (by omega))).trans (hB2.mono (by simp;omega))).trans (hB3.mono (by omega))⟩
structure qbM (s:Nat)(W0:World)(arr:Array Value)(ea:Option Addr)(L:List (Int×Int))(W:World):Prop where
 below:Below (s+1) W0 W
 box:W.heap[s]? = some (.cells arr 45)
 edges:qaY W ea L
 size:s+1≤W.heap.size
theorem qbM.step {W':World}(h:qbM s W0 arr ea L W)(hb:Below W.heap.size W W'):qbM s W0 arr ea L W' :=
 ⟨h.below.trans (hb.mono h.size),(hb.block _ (by have:=h.size;omega)).trans h.box,h.edges.below hb,Nat.le_trans h.size hb.size⟩
theorem qfv (w:World)(arr:Array Value)(ea:Option Addr)(L:List (Int×Int))(h:qaY w ea L):qbM w.heap.size (w.alloc (.cells arr 45)) arr ea L (w.alloc (.cells arr 45)) :=
 ⟨Below.refl _ _,qac _ _,h.below bwA,by simp⟩
theorem qbM.cell (h:qbM s W0 arr ea L W)(j:Nat):W.cell? ⟨s,j,none⟩=arr[j]?:=qab h.box j
theorem qbM.from_ {w:World}(h:qbM w.heap.size W0 arr ea L W)(h0:Below w.heap.size w W0):Below w.heap.size w W:=h0.trans (h.below.mono (by omega))
structure qi4 (arr:Array Value)(n:Nat)(L:List (Int×Int))(ea:Option Addr)(ecap:Nat):Prop where
 cfg:qxo arr n L ea ecap
 hn:n≤6
 hL:L.length≤30
 hE:qaO n L=true
theorem qdm {n:Nat}{ecap:Nat}(H:qi4 arr n L ea ecap)(a b:Nat)(ha:a<n)(hb:b<n)(h:qbM s W0 arr ea L W):Calls prog 126 #[.agg arr,.int .i64 a,.int .i64 b] W fun e w'=>e=.returned (.bool (qaZ n L a b))∧qbM s W0 arr ea L w' :=
 (quL arr n L ea ecap H.cfg H.hn H.hL H.hE a b ha hb W h.edges).mono fun _ _ ⟨he,hb'⟩=>⟨he,h.step hb'⟩
theorem qrs (arr:Array Value)(n:Nat)(L:List (Int×Int))(ea:Option Addr)(ecap:Nat)(H:qi4 arr n L ea ecap)(a b:Nat)(ha:a<n)(hb:b<n)(w:World)(hA:qaY w ea L):Calls prog 127 #[.agg arr,.int .i64 a,.int .i64 b] w fun e w'=>∃r:Int,e=.returned (.int .i64 r)∧Hid (decide (r<0) = !qa1 n (qaZ n L) a b)∧Below w.heap.size w w':=by
 have f0:=H.cfg.f0;have hn:=H.hn;have HI:=qaa (qaV H.cfg.size);have HR:=qaa H;have HX0:=qaa (qfv w arr ea L hA);have HB0:Hid (Below w.heap.size w (w.alloc (.cells arr 45))):=bwA;go_enter func127,ntmps127;go_wp2;generalize w.alloc (.cells arr 45)=W0 at *
 go_loopg [7,8,9] n (fun g x y z wr=>∃k:Nat,Hid (k+g=n)∧x=.int .i64 k∧Hid (qbM w.heap.size W0 arr ea L wr)∧Hid (∀j,j<k→qaK n (qaZ n L) a b j=false))
 case atStart=>exact⟨0,by show _=_;omega,rfl,HX0,fun j hj=>by omega⟩
 case round =>
  obtain⟨k,hk,rfl,HX,HL⟩:=hrel;have hc0:=(HX.out.cell 0).trans f0
  cases gk with
  |zero =>
   have hlt:¬(k:Int)<n:=by have:=hk.out;omega
   go_wp2;go_ret;exact⟨-1,rfl,by show _=_;rw[qeA (fun j hj=>HL.out j (by have:=hk.out;omega))];rfl,HX.out.from_ HB0.out⟩
  |succ g =>
   have hlt:(k:Int)<n:=by have:=hk.out;omega
   cases e1:qaZ n L a k
   ·have HF:Hid (qaK n (qaZ n L) a b k=false):=by show _=_;unfold qaK ubB;simp[e1]
    go_wp2_with (first
     |(refine wpList_load_row rfl 45 _ rfl _ rfl _ _ _ _ HX.out.box underlying45 rfl HI.out ?_)
     |(refine qaf 45 _ rfl rfl _ rfl _ _ _ _ HX.out.box underlying45 rfl HI.out ?_)
     |(go_at_call 126;refine(qdm HR.out _ _ (by omega) (by omega) HX.out).mono ?_;rintro e w2 ⟨rfl,hX2⟩;have HX:=qaa hX2))
    go_loopg [9,8] 0 (fun g x y wr=>x=.int .i64 0∧y=.bool false∧Hid (qbM w.heap.size W0 arr ea L wr))
    case atStart=>exact⟨rfl,rfl,HX⟩
    case round =>
     obtain⟨rfl,rfl,HX⟩:=hrel;have hc0:=(HX.out.cell 0).trans f0;go_wp2;go_roundg g
     case measure=>omega
     case rel =>
      refine⟨k+1,by show _=_;have:=hk.out;omega,by go_num,HX,fun j hj => ?_⟩;by_cases e:j=k
      ·subst e;exact HF.out
      exact HL.out j (by omega)
   cases e2:qaZ n L b k
   ·have HF:Hid (qaK n (qaZ n L) a b k=false):=by show _=_;unfold qaK ubB;simp[e2]
    go_wp2_with (first
     |(refine wpList_load_row rfl 45 _ rfl _ rfl _ _ _ _ HX.out.box underlying45 rfl HI.out ?_)
     |(refine qaf 45 _ rfl rfl _ rfl _ _ _ _ HX.out.box underlying45 rfl HI.out ?_)
     |(go_at_call 126;refine(qdm HR.out _ _ (by omega) (by omega) HX.out).mono ?_;rintro e w2 ⟨rfl,hX2⟩;have HX:=qaa hX2))
    go_loopg [9,8] 0 (fun g x y wr=>x=.int .i64 0∧y=.bool false∧Hid (qbM w.heap.size W0 arr ea L wr))
    case atStart=>exact⟨rfl,rfl,HX⟩
    case round =>
     obtain⟨rfl,rfl,HX⟩:=hrel;have hc0:=(HX.out.cell 0).trans f0;go_wp2;go_roundg g
     case measure=>omega
     case rel =>
      refine⟨k+1,by show _=_;have:=hk.out;omega,by go_num,HX,fun j hj => ?_⟩;by_cases e:j=k
      ·subst e;exact HF.out
      exact HL.out j (by omega)
   have HU:Hid (ubB (qaZ n L) a b k=true):=by show _=_;unfold ubB;simp[e1,e2]
   go_wp2_with (first
    |(refine wpList_load_row rfl 45 _ rfl _ rfl _ _ _ _ HX.out.box underlying45 rfl HI.out ?_)
    |(refine qaf 45 _ rfl rfl _ rfl _ _ _ _ HX.out.box underlying45 rfl HI.out ?_)
    |(go_at_call 126;refine(qdm HR.out _ _ (by omega) (by omega) HX.out).mono ?_;rintro e w2 ⟨rfl,hX2⟩;have HX:=qaa hX2))
   go_loopg [9,8] (n+1) (fun g x y wr=>∃(q:Nat) (o:Bool),Hid (q+g=n+1)∧x=.int .i64 q∧y=.bool o∧Hid (qbM w.heap.size W0 arr ea L wr)∧Hid (o=true→q≤n∧∀i,i<q→ubB (qaZ n L) a b i=true→(qaZ n L) k i=true)∧Hid (o=false→qaK n (qaZ n L) a b k=false))
   case atStart=>exact⟨0,true,by show _=_;omega,rfl,rfl,HX,fun _=>⟨by omega,fun i hi=>by omega⟩,fun h=>by cases h⟩
   case round =>
    obtain⟨q,o,hq,rfl,rfl,HX,HT,HN⟩:=hrel;have hc0:=(HX.out.cell 0).trans f0
    cases o with
    |false =>
     have HF:=qaa (HN.out rfl);by_cases hql:(q:Int)<n
     ·go_wp2;go_roundg g
      case measure=>omega
      case rel =>
       refine⟨k+1,by show _=_;have:=hk.out;omega,by go_num,HX,fun j hj => ?_⟩;by_cases e:j=k
       ·subst e;exact HF.out
       exact HL.out j (by omega)
     go_wp2;go_roundg g
     case measure=>omega
     case rel =>
      refine⟨k+1,by show _=_;have:=hk.out;omega,by go_num,HX,fun j hj => ?_⟩;by_cases e:j=k
      ·subst e;exact HF.out
      exact HL.out j (by omega)
    |true =>
     have hqn2:=(HT.out rfl).1;have HT2:=qaa ((HT.out rfl).2);by_cases hqn:q<n
     ·have hql:(q:Int)<n:=by omega
      cases gk with
      |zero=>have:=hq.out;omega
      |succ g2 =>
       cases e1:qaZ n L a q
       ·have HV:Hid (ubB (qaZ n L) a b q=true→(qaZ n L) k q=true):=fun h=>by unfold ubB at h;simp[e1] at h
        go_wp2_with (first
         |(refine wpList_load_row rfl 45 _ rfl _ rfl _ _ _ _ HX.out.box underlying45 rfl HI.out ?_)
         |(refine qaf 45 _ rfl rfl _ rfl _ _ _ _ HX.out.box underlying45 rfl HI.out ?_)
         |(go_at_call 126;refine(qdm HR.out _ _ (by omega) (by omega) HX.out).mono ?_;rintro e w2 ⟨rfl,hX2⟩;have HX:=qaa hX2))
        go_roundg g2
        case measure=>omega
        case rel=>exact⟨q+1,true,by show _=_;have:=hq.out;omega,by go_num,rfl,HX,(fun _=>⟨by omega,fun i hi hu=>by by_cases e:i=q;(· subst e;exact HV.out hu);(· exact HT2.out i (by omega) hu)⟩),(fun h=>by cases h)⟩
       cases e2:qaZ n L b q
       ·have HV:Hid (ubB (qaZ n L) a b q=true→(qaZ n L) k q=true):=fun h=>by unfold ubB at h;simp[e2] at h
        go_wp2_with (first
         |(refine wpList_load_row rfl 45 _ rfl _ rfl _ _ _ _ HX.out.box underlying45 rfl HI.out ?_)
         |(refine qaf 45 _ rfl rfl _ rfl _ _ _ _ HX.out.box underlying45 rfl HI.out ?_)
         |(go_at_call 126;refine(qdm HR.out _ _ (by omega) (by omega) HX.out).mono ?_;rintro e w2 ⟨rfl,hX2⟩;have HX:=qaa hX2))
        go_roundg g2
        case measure=>omega
        case rel=>exact⟨q+1,true,by show _=_;have:=hq.out;omega,by go_num,rfl,HX,(fun _=>⟨by omega,fun i hi hu=>by by_cases e:i=q;(· subst e;exact HV.out hu);(· exact HT2.out i (by omega) hu)⟩),(fun h=>by cases h)⟩
       cases e3:qaZ n L k q
       ·have HF:Hid (qaK n (qaZ n L) a b k=false):=qdu (k:=q) hqn (by unfold ubB;simp[e1,e2]) e3
        go_wp2_with (first
         |(refine wpList_load_row rfl 45 _ rfl _ rfl _ _ _ _ HX.out.box underlying45 rfl HI.out ?_)
         |(refine qaf 45 _ rfl rfl _ rfl _ _ _ _ HX.out.box underlying45 rfl HI.out ?_)
         |(go_at_call 126;refine(qdm HR.out _ _ (by omega) (by omega) HX.out).mono ?_;rintro e w2 ⟨rfl,hX2⟩;have HX:=qaa hX2))
        go_roundg g2
        case measure=>omega
        case rel=>exact⟨q+1,false,by show _=_;have:=hq.out;omega,by go_num,rfl,HX,(fun h=>by cases h),(fun _=>HF.out)⟩
       have HV:Hid (ubB (qaZ n L) a b q=true→(qaZ n L) k q=true):=fun _=>e3
       go_wp2_with (first
        |(refine wpList_load_row rfl 45 _ rfl _ rfl _ _ _ _ HX.out.box underlying45 rfl HI.out ?_)
        |(refine qaf 45 _ rfl rfl _ rfl _ _ _ _ HX.out.box underlying45 rfl HI.out ?_)
        |(go_at_call 126;refine(qdm HR.out _ _ (by omega) (by omega) HX.out).mono ?_;rintro e w2 ⟨rfl,hX2⟩;have HX:=qaa hX2))
       go_roundg g2
       case measure=>omega
       case rel=>exact⟨q+1,true,by show _=_;have:=hq.out;omega,by go_num,rfl,HX,(fun _=>⟨by omega,fun i hi hu=>by by_cases e:i=q;(· subst e;exact HV.out hu);(· exact HT2.out i (by omega) hu)⟩),(fun h=>by cases h)⟩
     have hql:¬(q:Int)<n:=by omega
     have HF:Hid (qaK n (qaZ n L) a b k=true):=qfw HU.out (fun i hi=>HT2.out i (by omega));go_wp2;go_ret;exact⟨k,rfl,by show _=_;rw[qdy (j:=k) (by omega) HF.out,decide_eq_false (by omega)];rfl,HX.out.from_ HB0.out⟩
theorem qrO (arr:Array Value)(n:Nat)(L:List (Int×Int))(ea:Option Addr)(ecap:Nat)(H:qi4 arr n L ea ecap)(a b:Nat)(ha:a<n)(hb:b<n)(w:World)(hA:qaY w ea L):Calls prog 128 #[.agg arr,.int .i64 a,.int .i64 b] w fun e w'=>∃r:Int,e=.returned (.int .i64 r)∧Hid (decide (r<0) = !qa1 n (fun i j=>qaZ n L j i) a b)∧Below w.heap.size w w':=by
 have f0:=H.cfg.f0;have hn:=H.hn;have HI:=qaa (qaV H.cfg.size);have HR:=qaa H;have HX0:=qaa (qfv w arr ea L hA);have HB0:Hid (Below w.heap.size w (w.alloc (.cells arr 45))):=bwA;go_enter func128,ntmps128;go_wp2;generalize w.alloc (.cells arr 45)=W0 at *
 go_loopg [7,8,9] n (fun g x y z wr=>∃k:Nat,Hid (k+g=n)∧x=.int .i64 k∧Hid (qbM w.heap.size W0 arr ea L wr)∧Hid (∀j,j<k→qaK n (fun i j=>qaZ n L j i) a b j=false))
 case atStart=>exact⟨0,by show _=_;omega,rfl,HX0,fun j hj=>by omega⟩
 case round =>
  obtain⟨k,hk,rfl,HX,HL⟩:=hrel;have hc0:=(HX.out.cell 0).trans f0
  cases gk with
  |zero =>
   have hlt:¬(k:Int)<n:=by have:=hk.out;omega
   go_wp2;go_ret;exact⟨-1,rfl,by show _=_;rw[qeA (fun j hj=>HL.out j (by have:=hk.out;omega))];rfl,HX.out.from_ HB0.out⟩
  |succ g =>
   have hlt:(k:Int)<n:=by have:=hk.out;omega
   cases e1:qaZ n L k a
   ·have HF:Hid (qaK n (fun i j=>qaZ n L j i) a b k=false):=by show _=_;unfold qaK ubB;simp[e1]
    go_wp2_with (first
     |(refine wpList_load_row rfl 45 _ rfl _ rfl _ _ _ _ HX.out.box underlying45 rfl HI.out ?_)
     |(refine qaf 45 _ rfl rfl _ rfl _ _ _ _ HX.out.box underlying45 rfl HI.out ?_)
     |(go_at_call 126;refine(qdm HR.out _ _ (by omega) (by omega) HX.out).mono ?_;rintro e w2 ⟨rfl,hX2⟩;have HX:=qaa hX2))
    go_loopg [9,8] 0 (fun g x y wr=>x=.int .i64 0∧y=.bool false∧Hid (qbM w.heap.size W0 arr ea L wr))
    case atStart=>exact⟨rfl,rfl,HX⟩
    case round =>
     obtain⟨rfl,rfl,HX⟩:=hrel;have hc0:=(HX.out.cell 0).trans f0;go_wp2;go_roundg g
     case measure=>omega
     case rel =>
      refine⟨k+1,by show _=_;have:=hk.out;omega,by go_num,HX,fun j hj => ?_⟩;by_cases e:j=k
      ·subst e;exact HF.out
      exact HL.out j (by omega)
   cases e2:qaZ n L k b
   ·have HF:Hid (qaK n (fun i j=>qaZ n L j i) a b k=false):=by show _=_;unfold qaK ubB;simp[e2]
    go_wp2_with (first
     |(refine wpList_load_row rfl 45 _ rfl _ rfl _ _ _ _ HX.out.box underlying45 rfl HI.out ?_)
     |(refine qaf 45 _ rfl rfl _ rfl _ _ _ _ HX.out.box underlying45 rfl HI.out ?_)
     |(go_at_call 126;refine(qdm HR.out _ _ (by omega) (by omega) HX.out).mono ?_;rintro e w2 ⟨rfl,hX2⟩;have HX:=qaa hX2))
    go_loopg [9,8] 0 (fun g x y wr=>x=.int .i64 0∧y=.bool false∧Hid (qbM w.heap.size W0 arr ea L wr))
    case atStart=>exact⟨rfl,rfl,HX⟩
    case round =>
     obtain⟨rfl,rfl,HX⟩:=hrel;have hc0:=(HX.out.cell 0).trans f0;go_wp2;go_roundg g
     case measure=>omega
     case rel =>
      refine⟨k+1,by show _=_;have:=hk.out;omega,by go_num,HX,fun j hj => ?_⟩;by_cases e:j=k
      ·subst e;exact HF.out
      exact HL.out j (by omega)
   have HU:Hid (ubB (fun i j=>qaZ n L j i) a b k=true):=by show _=_;unfold ubB;simp[e1,e2]
   go_wp2_with (first
    |(refine wpList_load_row rfl 45 _ rfl _ rfl _ _ _ _ HX.out.box underlying45 rfl HI.out ?_)
    |(refine qaf 45 _ rfl rfl _ rfl _ _ _ _ HX.out.box underlying45 rfl HI.out ?_)
    |(go_at_call 126;refine(qdm HR.out _ _ (by omega) (by omega) HX.out).mono ?_;rintro e w2 ⟨rfl,hX2⟩;have HX:=qaa hX2))
   go_loopg [9,8] (n+1) (fun g x y wr=>∃(q:Nat) (o:Bool),Hid (q+g=n+1)∧x=.int .i64 q∧y=.bool o∧Hid (qbM w.heap.size W0 arr ea L wr)∧Hid (o=true→q≤n∧∀i,i<q→ubB (fun i j=>qaZ n L j i) a b i=true→(fun i j=>qaZ n L j i) k i=true)∧Hid (o=false→qaK n (fun i j=>qaZ n L j i) a b k=false))
   case atStart=>exact⟨0,true,by show _=_;omega,rfl,rfl,HX,fun _=>⟨by omega,fun i hi=>by omega⟩,fun h=>by cases h⟩
   case round =>
    obtain⟨q,o,hq,rfl,rfl,HX,HT,HN⟩:=hrel;have hc0:=(HX.out.cell 0).trans f0
    cases o with
    |false =>
     have HF:=qaa (HN.out rfl);by_cases hql:(q:Int)<n
     ·go_wp2;go_roundg g
      case measure=>omega
      case rel =>
       refine⟨k+1,by show _=_;have:=hk.out;omega,by go_num,HX,fun j hj => ?_⟩;by_cases e:j=k
       ·subst e;exact HF.out
       exact HL.out j (by omega)
     go_wp2;go_roundg g
     case measure=>omega
     case rel =>
      refine⟨k+1,by show _=_;have:=hk.out;omega,by go_num,HX,fun j hj => ?_⟩;by_cases e:j=k
      ·subst e;exact HF.out
      exact HL.out j (by omega)
    |true =>
     have hqn2:=(HT.out rfl).1;have HT2:=qaa ((HT.out rfl).2);by_cases hqn:q<n
     ·have hql:(q:Int)<n:=by omega
      cases gk with
      |zero=>have:=hq.out;omega
      |succ g2 =>
       cases e1:qaZ n L q a
       ·have HV:Hid (ubB (fun i j=>qaZ n L j i) a b q=true→(fun i j=>qaZ n L j i) k q=true):=fun h=>by unfold ubB at h;simp[e1] at h
        go_wp2_with (first
         |(refine wpList_load_row rfl 45 _ rfl _ rfl _ _ _ _ HX.out.box underlying45 rfl HI.out ?_)
         |(refine qaf 45 _ rfl rfl _ rfl _ _ _ _ HX.out.box underlying45 rfl HI.out ?_)
         |(go_at_call 126;refine(qdm HR.out _ _ (by omega) (by omega) HX.out).mono ?_;rintro e w2 ⟨rfl,hX2⟩;have HX:=qaa hX2))
        go_roundg g2
        case measure=>omega
        case rel=>exact⟨q+1,true,by show _=_;have:=hq.out;omega,by go_num,rfl,HX,(fun _=>⟨by omega,fun i hi hu=>by by_cases e:i=q;(· subst e;exact HV.out hu);(· exact HT2.out i (by omega) hu)⟩),(fun h=>by cases h)⟩
       cases e2:qaZ n L q b
       ·have HV:Hid (ubB (fun i j=>qaZ n L j i) a b q=true→(fun i j=>qaZ n L j i) k q=true):=fun h=>by unfold ubB at h;simp[e2] at h
        go_wp2_with (first
         |(refine wpList_load_row rfl 45 _ rfl _ rfl _ _ _ _ HX.out.box underlying45 rfl HI.out ?_)
         |(refine qaf 45 _ rfl rfl _ rfl _ _ _ _ HX.out.box underlying45 rfl HI.out ?_)
         |(go_at_call 126;refine(qdm HR.out _ _ (by omega) (by omega) HX.out).mono ?_;rintro e w2 ⟨rfl,hX2⟩;have HX:=qaa hX2))
        go_roundg g2
        case measure=>omega
        case rel=>exact⟨q+1,true,by show _=_;have:=hq.out;omega,by go_num,rfl,HX,(fun _=>⟨by omega,fun i hi hu=>by by_cases e:i=q;(· subst e;exact HV.out hu);(· exact HT2.out i (by omega) hu)⟩),(fun h=>by cases h)⟩
       cases e3:qaZ n L q k
       ·have HF:Hid (qaK n (fun i j=>qaZ n L j i) a b k=false):=qdu (k:=q) hqn (by unfold ubB;simp[e1,e2]) e3
        go_wp2_with (first
         |(refine wpList_load_row rfl 45 _ rfl _ rfl _ _ _ _ HX.out.box underlying45 rfl HI.out ?_)
         |(refine qaf 45 _ rfl rfl _ rfl _ _ _ _ HX.out.box underlying45 rfl HI.out ?_)
         |(go_at_call 126;refine(qdm HR.out _ _ (by omega) (by omega) HX.out).mono ?_;rintro e w2 ⟨rfl,hX2⟩;have HX:=qaa hX2))
        go_roundg g2
        case measure=>omega
        case rel=>exact⟨q+1,false,by show _=_;have:=hq.out;omega,by go_num,rfl,HX,(fun h=>by cases h),(fun _=>HF.out)⟩
       have HV:Hid (ubB (fun i j=>qaZ n L j i) a b q=true→(fun i j=>qaZ n L j i) k q=true):=fun _=>e3
       go_wp2_with (first
        |(refine wpList_load_row rfl 45 _ rfl _ rfl _ _ _ _ HX.out.box underlying45 rfl HI.out ?_)
        |(refine qaf 45 _ rfl rfl _ rfl _ _ _ _ HX.out.box underlying45 rfl HI.out ?_)
        |(go_at_call 126;refine(qdm HR.out _ _ (by omega) (by omega) HX.out).mono ?_;rintro e w2 ⟨rfl,hX2⟩;have HX:=qaa hX2))
       go_roundg g2
       case measure=>omega
       case rel=>exact⟨q+1,true,by show _=_;have:=hq.out;omega,by go_num,rfl,HX,(fun _=>⟨by omega,fun i hi hu=>by by_cases e:i=q;(· subst e;exact HV.out hu);(· exact HT2.out i (by omega) hu)⟩),(fun h=>by cases h)⟩
     have hql:¬(q:Int)<n:=by omega
     have HF:Hid (qaK n (fun i j=>qaZ n L j i) a b k=true):=qfw HU.out (fun i hi=>HT2.out i (by omega));go_wp2;go_ret;exact⟨k,rfl,by show _=_;rw[qdy (j:=k) (by omega) HF.out,decide_eq_false (by omega)];rfl,HX.out.from_ HB0.out⟩
end
end Go.Proofs.YtllcbnfmihfaaaaGreatDoor
