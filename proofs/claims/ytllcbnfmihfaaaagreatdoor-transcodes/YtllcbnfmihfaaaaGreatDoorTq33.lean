import Derived.Lib.MapLaws
import Derived.Test.YtllcbnfmihfaaaaGreatDoorTq31
import Derived.Test.YtllcbnfmihfaaaaGreatDoorTq32
set_option maxRecDepth 100000
set_option maxHeartbeats 8000000
namespace Go.Proofs.YtllcbnfmihfaaaaGreatDoor
open Go.Proofs.Tryz
variable {l w:List UInt8}
section
open Go.RowKit Go.Lib
theorem q6H (W:World)(bs:List UInt8)(fm d l lim:Int)(i x:Nat)(hl:Lm bs l lim)(hi:InR bs lim i)(hb:bs.length≤200000000)(hx:x≤bs.length):Calls prog 176 #[.agg (inA bs fm d l),.int .i64 i,.int .i64 (x:Int),.bool true] W fun e W'=>q2a (qfg bs lim x i [] 0) e∧Below W.heap.size W W':=by
 obtain⟨R,HR⟩:∃R,Hid (qfg bs lim x i [] 0=R):=⟨_,show _=_ from rfl⟩
 rw[HR.out];have hsz:=qym bs;have hil:=hi.1;have HL:=qaa hl;have HI:=qaa hi;have cH:=qzv bs fm d l;have cB:=qzy bs fm d l;have HX:=q00 W bs fm d l;clear hl hi;unfold inA;go_enter func176,ntmps176;go_wp2
 go_loopg [11] (bs.length+1-i) (fun g z wr=>∃k:Nat,z=.int .i64 k∧Hid (bs.length+1≤k+g)∧Hid (RIn W (inA bs fm d l) (W.heap.size+1) wr)∧Hid (InR bs lim k)∧Hid (i≤k∧k-i≤x)∧Hid (qfg bs lim (x-(k-i)) (k) (qye bs i (k-i)) (qye bs i (k-i)).length=R))
 case atStart=>exact⟨i,rfl,by show _≤_;omega,HX,HI,⟨Nat.le_refl _,by omega⟩,by show _=_;rw[Nat.sub_self,qyS,Nat.sub_zero];exact HR.out⟩
 case round =>
  clear HR HX HI;obtain⟨k,rfl,hg,HX,HI,HK,HR⟩:=hrel;have hkl:=HI.out.1;obtain⟨c0,c1,c2,c3⟩:=qyf HX.out.box;by_cases hkx:k-i=x
  ·have HE:Hid (R=.ok (qye bs i x,k)):=by
    show _=_;have h:=HR.out;rw[hkx,Nat.sub_self] at h;rw[←h];unfold qfg;rw[if_pos rfl]
   have hik:=HK.out.1;have hlt:¬(k:Int)<(i:Int)+(x:Int):=by omega
   have hng:¬(bs.length:Int)<(x:Int):=by omega
   have HEX:Hid ((⟨bs.toArray⟩:ByteArray).extract (i:Int).toNat (k:Int).toNat=⟨(qye bs i x).toArray⟩):=by
    show _=_;rw[show(i:Int).toNat=i by omega,show(k:Int).toNat=i+x by omega];exact q1P bs i x
   have hik2:(i:Int)≤(k:Int):=by omega
   have hkl2:(k:Int)≤(bs.length:Int):=by omega
   clear HR cH cB HK hg
   go_wp2_with (first
    |((with_reducible refine stF 10 95 rfl rfl (W.heap.size+1) (0,0) ?_ ?_ ?_ ?_);exact rfl;exact rfl;exact HX.out.flt))
   have hf:=qxK HX.out bwR (0,0);refine qzl results176 hf (.string ((⟨bs.toArray⟩:ByteArray).extract (i:Int).toNat (k:Int).toNat)) (.int .i64 k) rfl rfl rfl rfl ⟨?_,hf.2⟩;rw[HE.out,HEX.out];rfl
  have hkx2:k-i<x:=by have:=HK.out.2;omega
  have hlt:(k:Int)<(i:Int)+(x:Int):=by omega
  have hle:(x:Int)≤(bs.length:Int):=by omega
  have cH1:=fun V=>cH V k;rcases qyF (bs:=bs) (lim:=lim) k with hno|⟨ch,hc,hp⟩
  ·obtain⟨h1,h2⟩:=q3A (m:=x-(k-i)) (wh:=(qye bs i (k-i)).length) (acc:=qye bs i (k-i)) (by omega) HI.out HL.out hno;have HE:=qaa (HR.out.symm.trans h1);rw[h2] at cH1;have cB1:=fun V=>cB V k 9;generalize qr0 bs l k 9=xx at *;clear HR h1 h2 hno cH cB HK hg
   go_wp2_with (first
    |(go_at_call 113;refine ck4 (cH1 _) HX.out.next (fun _ h=>h.box) ?_;clear cH1 c0 c1 c2 c3;intro w2 HX2 c0 c1 c2 c3)
    |(go_at_call 71;refine ck4 (cB1 _) HX2.out.next (fun _ h=>h.box) ?_;clear cB1 c0 c1 c2 c3;intro w3 HX3 c0 c1 c2 c3)
    |((with_reducible refine stF 10 35 rfl rfl (W.heap.size+1) (xx) ?_ ?_ ?_ ?_);exact rfl;exact rfl;exact HX3.out.flt))
   have hf:=qxK HX3.out bwR (xx);refine qzl results176 hf (.string ⟨#[]⟩) (.int .i64 0) rfl rfl rfl rfl ⟨?_,hf.2⟩;rw[HE.out];rfl
  have hkb:=ltL hc;have hh:=qxO HL.out HI.out hc hp;rw[hh] at cH1;have hkl2:(k:Int)<lim:=by have:=HI.out.2;omega
  have hmn:=q2J HL.out hkb hkl2;obtain⟨nn,hnn⟩:∃nn:Nat,(nn:Int)=min (bs.length:Int) lim:=⟨(min (bs.length:Int) lim).toNat,by omega⟩
  rw[←hnn] at hmn;have hnl:nn≤bs.length:=by omega
  obtain⟨n2,hn2⟩:∃n2:Nat,min (nn:Int) ((i:Int)+(x:Int))=(n2:Int):=⟨(min (nn:Int) ((i:Int)+(x:Int))).toNat,by omega⟩
  have hnl2:n2≤bs.length:=by omega
  have hchar:=q0T HL.out (n:=n2) (p:=k) (m:=x-(k-i)) (by have:=HK.out.1;omega) HI.out hc hp (by omega) (qye bs i (k-i));rw[HR.out] at hchar;have cG:=fun V=>qyT V bs k n2 ch hc hb (by omega);obtain⟨j,b,hbf⟩:∃j b,qgB bs n2 k ch=(j,b):=⟨_,_,rfl⟩
  rw[hbf] at hchar cG;cases b
  ·simp only[] at hchar;obtain⟨hji,hjm,hje⟩:=hchar;have hjl:=hji.1;have cG2:∀V,Calls prog 68 #[.string ⟨bs.toArray⟩,.int .i64 k,.int .i64 n2] V fun e W'=>e=.returned (.tuple #[.int .i64 j,.bool false])∧V=W':=fun V=>(cG V).mono fun e W' h=>⟨h.1,h.2.symm⟩
   by_cases hjx:j=x-(k-i)
   ·rw[if_pos hjx] at hje;have hik:=HK.out.1;obtain⟨kj,hkj⟩:∃kj,kj+1=k+j:=⟨k+j-1,by omega⟩
    have HE:Hid (R=.error (9,(kj:Int))):=by
     show _=_;rw[hje];congr 2;omega
    have cB1:∀V,Calls prog 71 #[.agg #[.string ⟨bs.toArray⟩,.int .i64 fm,.int .i64 d,.int .i64 l],.int .i64 ((k:Int)+(j:Int)-1),.int .i64 9] V fun e W'=>e=.returned (.agg (qqp (9,(kj:Int))))∧Below V.heap.size V W':=fun V=>by
     have h:=cB V kj 9;rw[q1n HL.out (by rw[hkj];exact hji),show(kj:Int)=(k:Int)+(j:Int)-1 by omega] at h;rw[show(kj:Int)=(k:Int)+(j:Int)-1 by omega];exact h
    have heq:((k:Int)+(j:Int)==(i:Int)+(x:Int))=true:=by simp;omega
    have hj1:1≤(k:Int)+(j:Int):=by omega
    clear HR hc hp hh cH cB hje hji hjx hnn hbf cG hkj HK hg hik
    go_wp2_with (first
     |(go_at_call 113;refine ck4 (cH1 _) HX.out.next (fun _ h=>h.box) ?_;clear cH1 c0 c1 c2 c3;intro w2 HX2 c0 c1 c2 c3)
     |(go_at_call 68;refine(cG2 _).mono ?_;clear cG2;rintro e w3 ⟨rfl,rfl⟩)
     |(go_at_call 71;refine ck4 (cB1 _) HX2.out.next (fun _ h=>h.box) ?_;clear cB1 c0 c1 c2 c3;intro w4 HX4 c0 c1 c2 c3)
     |((with_reducible refine stF 10 77 rfl rfl (W.heap.size+1) (9,(kj:Int)) ?_ ?_ ?_ ?_);exact rfl;exact rfl;exact HX4.out.flt))
    have hf:=qxK HX4.out bwR (9,(kj:Int));refine qzl results176 hf (.string ⟨#[]⟩) (.int .i64 0) rfl rfl rfl rfl ⟨?_,hf.2⟩;rw[HE.out];rfl
   rw[if_neg hjx] at hje;have hik:=HK.out.1;have heq:((k:Int)+(j:Int)==(i:Int)+(x:Int))=false:=by simp;omega
   have HE:=qaa hje;have cB1:=fun V=>cB V (k+j) 9;rw[show((k+j:Nat):Int)=(k:Int)+(j:Int) by omega] at cB1;generalize qr0 bs l (k+j) 9=xx at *;clear HR hc hp hh cH cB hje hji hnn hbf cG HK hg hjx hik
   go_wp2_with (first
    |(go_at_call 113;refine ck4 (cH1 _) HX.out.next (fun _ h=>h.box) ?_;clear cH1 c0 c1 c2 c3;intro w2 HX2 c0 c1 c2 c3)
    |(go_at_call 68;refine(cG2 _).mono ?_;clear cG2;rintro e w3 ⟨rfl,rfl⟩)
    |(go_at_call 71;refine ck4 (cB1 _) HX2.out.next (fun _ h=>h.box) ?_;clear cB1 c0 c1 c2 c3;intro w4 HX4 c0 c1 c2 c3)
    |((with_reducible refine stF 10 84 rfl rfl (W.heap.size+1) (xx) ?_ ?_ ?_ ?_);exact rfl;exact rfl;exact HX4.out.flt))
   have hf:=qxK HX4.out bwR (xx);refine qzl results176 hf (.string ⟨#[]⟩) (.int .i64 0) rfl rfl rfl rfl ⟨?_,hf.2⟩;rw[HE.out];rfl
  simp only[] at hchar;obtain⟨hj1,hji,hjm,hje⟩:=hchar;have hjl:=hji.1;have cG2:∀V,Calls prog 68 #[.string ⟨bs.toArray⟩,.int .i64 k,.int .i64 n2] V fun e W'=>e=.returned (.tuple #[.int .i64 j,.bool true])∧V=W':=fun V=>(cG V).mono fun e W' h=>⟨h.1,h.2.symm⟩
  have HN:Hid (qfg bs lim (x-(k+j-i)) (k+j) (qye bs i (k+j-i)) (qye bs i (k+j-i)).length=R):=by
   show _=_;have hik:=HK.out.1;have e:qye bs i (k-i)++qye bs k j=qye bs i (k+j-i):=by
    have h:=q2j bs i (k-i) j;rw[show i+(k-i)=k by omega,show k-i+j=k+j-i by omega] at h;exact h
   rw[e,show x-(k-i)-j=x-(k+j-i) by omega] at hje;exact hje.symm
  have HNI:=qaa hji;clear HR hc hp hh cH cB hje hji hnn hbf cG
  go_wp2_with (first
   |(go_at_call 113;refine ck4 (cH1 _) HX.out.next (fun _ h=>h.box) ?_;clear cH1 c0 c1 c2 c3;intro w2 HX2 c0 c1 c2 c3)
   |(go_at_call 68;refine(cG2 _).mono ?_;clear cG2;rintro e w3 ⟨rfl,rfl⟩))
  go_roundg (gk-j)
  case measure=>have:=hg.out;omega
  case rel=>exact⟨k+j,by go_num,by show _≤_;have:=hg.out;omega,HX2,HNI,⟨by have:=HK.out.1;omega,by have:=HK.out.1;omega⟩,HN⟩
theorem q6E (W:World)(bs:List UInt8)(fm d l lim:Int)(i x:Nat)(hl:Lm bs l lim)(hi:InR bs lim i)(hb:bs.length≤200000000)(n:Int)(hx:bs.length<x)(hn1:(bs.length:Int)<n)(hn2:(i:Int)+n≤9223372036854775807):Calls prog 176 #[.agg (inA bs fm d l),.int .i64 i,.int .i64 n,.bool true] W fun e W'=>q2a (qfg bs lim x i [] 0) e∧Below W.heap.size W W':=by
 obtain⟨R,HR⟩:∃R,Hid (qfg bs lim x i [] 0=R):=⟨_,show _=_ from rfl⟩
 rw[HR.out];have hsz:=qym bs;have hil:=hi.1;have HL:=qaa hl;have HI:=qaa hi;have cH:=qzv bs fm d l;have cB:=qzy bs fm d l;have HX:=q00 W bs fm d l;clear hl hi;unfold inA;go_enter func176,ntmps176;go_wp2
 go_loopg [11] (bs.length+1-i) (fun g z wr=>∃k:Nat,z=.int .i64 k∧Hid (bs.length+1≤k+g)∧Hid (RIn W (inA bs fm d l) (W.heap.size+1) wr)∧Hid (InR bs lim k)∧Hid (i≤k∧k-i≤x)∧Hid (qfg bs lim (x-(k-i)) (k) (qye bs i (k-i)) (qye bs i (k-i)).length=R))
 case atStart=>exact⟨i,rfl,by show _≤_;omega,HX,HI,⟨Nat.le_refl _,by omega⟩,by show _=_;rw[Nat.sub_self,qyS,Nat.sub_zero];exact HR.out⟩
 case round =>
  clear HR HX HI;obtain⟨k,rfl,hg,HX,HI,HK,HR⟩:=hrel;have hkl:=HI.out.1;obtain⟨c0,c1,c2,c3⟩:=qyf HX.out.box;have hkx2:k-i<x:=by omega
  have hlt:(k:Int)<(i:Int)+n:=by omega
  have hni : -9223372036854775808≤(i:Int)+n:=by omega
  have hnle:¬n≤(bs.length:Int):=by omega
  have cH1:=fun V=>cH V k;rcases qyF (bs:=bs) (lim:=lim) k with hno|⟨ch,hc,hp⟩
  ·obtain⟨h1,h2⟩:=q3A (m:=x-(k-i)) (wh:=(qye bs i (k-i)).length) (acc:=qye bs i (k-i)) (by omega) HI.out HL.out hno;have HE:=qaa (HR.out.symm.trans h1);rw[h2] at cH1;have cB1:=fun V=>cB V k 9;generalize qr0 bs l k 9=xx at *;clear HR h1 h2 hno cH cB HK hg
   go_wp2_with (first
    |(go_at_call 113;refine ck4 (cH1 _) HX.out.next (fun _ h=>h.box) ?_;clear cH1 c0 c1 c2 c3;intro w2 HX2 c0 c1 c2 c3)
    |(go_at_call 71;refine ck4 (cB1 _) HX2.out.next (fun _ h=>h.box) ?_;clear cB1 c0 c1 c2 c3;intro w3 HX3 c0 c1 c2 c3)
    |((with_reducible refine stF 10 35 rfl rfl (W.heap.size+1) (xx) ?_ ?_ ?_ ?_);exact rfl;exact rfl;exact HX3.out.flt))
   have hf:=qxK HX3.out bwR (xx);refine qzl results176 hf (.string ⟨#[]⟩) (.int .i64 0) rfl rfl rfl rfl ⟨?_,hf.2⟩;rw[HE.out];rfl
  have hkb:=ltL hc;have hh:=qxO HL.out HI.out hc hp;rw[hh] at cH1;have hkl2:(k:Int)<lim:=by have:=HI.out.2;omega
  have hmn:=q2J HL.out hkb hkl2;obtain⟨nn,hnn⟩:∃nn:Nat,(nn:Int)=min (bs.length:Int) lim:=⟨(min (bs.length:Int) lim).toNat,by omega⟩
  rw[←hnn] at hmn;have hnl:nn≤bs.length:=by omega
  have hchar:=q0T HL.out (n:=nn) (p:=k) (m:=x-(k-i)) (by have:=HK.out.1;omega) HI.out hc hp (by omega) (qye bs i (k-i));rw[HR.out] at hchar;have cG:=fun V=>qyT V bs k nn ch hc hb (by omega);obtain⟨j,b,hbf⟩:∃j b,qgB bs nn k ch=(j,b):=⟨_,_,rfl⟩
  rw[hbf] at hchar cG;cases b
  ·simp only[] at hchar;obtain⟨hji,hjm,hje⟩:=hchar;have hjl:=hji.1;have cG2:∀V,Calls prog 68 #[.string ⟨bs.toArray⟩,.int .i64 k,.int .i64 nn] V fun e W'=>e=.returned (.tuple #[.int .i64 j,.bool false])∧V=W':=fun V=>(cG V).mono fun e W' h=>⟨h.1,h.2.symm⟩
   rw[if_neg (by omega)] at hje;have heq:((k:Int)+(j:Int)==(i:Int)+n)=false:=by simp;omega
   have HE:=qaa hje;have cB1:=fun V=>cB V (k+j) 9;rw[show((k+j:Nat):Int)=(k:Int)+(j:Int) by omega] at cB1;generalize qr0 bs l (k+j) 9=xx at *;clear HR hc hp hh cH cB hje hji hnn hbf cG HK hg
   go_wp2_with (first
    |(go_at_call 113;refine ck4 (cH1 _) HX.out.next (fun _ h=>h.box) ?_;clear cH1 c0 c1 c2 c3;intro w2 HX2 c0 c1 c2 c3)
    |(go_at_call 68;refine(cG2 _).mono ?_;clear cG2;rintro e w3 ⟨rfl,rfl⟩)
    |(go_at_call 71;refine ck4 (cB1 _) HX2.out.next (fun _ h=>h.box) ?_;clear cB1 c0 c1 c2 c3;intro w4 HX4 c0 c1 c2 c3)
    |((with_reducible refine stF 10 84 rfl rfl (W.heap.size+1) (xx) ?_ ?_ ?_ ?_);exact rfl;exact rfl;exact HX4.out.flt))
   have hf:=qxK HX4.out bwR (xx);refine qzl results176 hf (.string ⟨#[]⟩) (.int .i64 0) rfl rfl rfl rfl ⟨?_,hf.2⟩;rw[HE.out];rfl
  simp only[] at hchar;obtain⟨hj1,hji,hjm,hje⟩:=hchar;have hjl:=hji.1;have cG2:∀V,Calls prog 68 #[.string ⟨bs.toArray⟩,.int .i64 k,.int .i64 nn] V fun e W'=>e=.returned (.tuple #[.int .i64 j,.bool true])∧V=W':=fun V=>(cG V).mono fun e W' h=>⟨h.1,h.2.symm⟩
  have HN:Hid (qfg bs lim (x-(k+j-i)) (k+j) (qye bs i (k+j-i)) (qye bs i (k+j-i)).length=R):=by
   show _=_;have hik:=HK.out.1;have e:qye bs i (k-i)++qye bs k j=qye bs i (k+j-i):=by
    have h:=q2j bs i (k-i) j;rw[show i+(k-i)=k by omega,show k-i+j=k+j-i by omega] at h;exact h
   rw[e,show x-(k-i)-j=x-(k+j-i) by omega] at hje;exact hje.symm
  have HNI:=qaa hji;clear HR hc hp hh cH cB hje hji hnn hbf cG
  go_wp2_with (first
   |(go_at_call 113;refine ck4 (cH1 _) HX.out.next (fun _ h=>h.box) ?_;clear cH1 c0 c1 c2 c3;intro w2 HX2 c0 c1 c2 c3)
   |(go_at_call 68;refine(cG2 _).mono ?_;clear cG2;rintro e w3 ⟨rfl,rfl⟩))
  go_roundg (gk-j)
  case measure=>have:=hg.out;omega
  case rel=>exact⟨k+j,by go_num,by show _≤_;have:=hg.out;omega,HX2,HNI,⟨by have:=HK.out.1;omega,by have:=HK.out.1;omega⟩,HN⟩
theorem q6G (W:World)(bs:List UInt8)(fm d l lim:Int)(i x:Nat)(hl:Lm bs l lim)(hi:InR bs lim i)(hb:bs.length≤200000000)(n:Int)(hx:bs.length<x)(hn1:(bs.length:Int)<n)(hn2:n≤9223372036854775807)(hn3:9223372036854775807<(i:Int)+n):Calls prog 176 #[.agg (inA bs fm d l),.int .i64 i,.int .i64 n,.bool true] W fun e W'=>q2a (qfg bs lim x i [] 0) e∧Below W.heap.size W W':=by
 obtain⟨R,HR⟩:∃R,Hid (qfg bs lim x i [] 0=R):=⟨_,show _=_ from rfl⟩
 rw[HR.out];have hsz:=qym bs;have hil:=hi.1;have HL:=qaa hl;have HI:=qaa hi;have cH:=qzv bs fm d l;have cB:=qzy bs fm d l;obtain⟨wv,hwv⟩:∃wv,IntKind.i64.wrap ((i:Int)+n)=wv:=⟨_,rfl⟩
 have hneg:wv<0:=by rw[←hwv];exact q14 _ hn3 (by omega)
 have HX:=q00 W bs fm d l;clear hl hi;unfold inA;go_enter func176,ntmps176;go_wp2
 go_loopg [11] (bs.length+1-i) (fun g z wr=>∃k:Nat,z=.int .i64 k∧Hid (bs.length+1≤k+g)∧Hid (RIn W (inA bs fm d l) (W.heap.size+1) wr)∧Hid (InR bs lim k)∧Hid (i≤k∧k-i≤x)∧Hid (qfg bs lim (x-(k-i)) (k) (qye bs i (k-i)) (qye bs i (k-i)).length=R))
 case atStart=>exact⟨i,rfl,by show _≤_;omega,HX,HI,⟨Nat.le_refl _,by omega⟩,by show _=_;rw[Nat.sub_self,qyS,Nat.sub_zero];exact HR.out⟩
 case round =>
  clear HR HX HI;obtain⟨k,rfl,hg,HX,HI,HK,HR⟩:=hrel;have hkl:=HI.out.1;obtain⟨c0,c1,c2,c3⟩:=qyf HX.out.box;have hkx2:k-i<x:=by omega
  have hlt:¬(k:Int)<wv:=by omega
  have hnle:¬n≤(bs.length:Int):=by omega
  have cH1:=fun V=>cH V k;rcases qyF (bs:=bs) (lim:=lim) k with hno|⟨ch,hc,hp⟩
  ·obtain⟨h1,h2⟩:=q3A (m:=x-(k-i)) (wh:=(qye bs i (k-i)).length) (acc:=qye bs i (k-i)) (by omega) HI.out HL.out hno;have HE:=qaa (HR.out.symm.trans h1);rw[h2] at cH1;have cB1:=fun V=>cB V k 9;generalize qr0 bs l k 9=xx at *;clear HR h1 h2 hno cH cB HK hg
   go_wp2_with (first
    |(go_at_call 113;refine ck4 (cH1 _) HX.out.next (fun _ h=>h.box) ?_;clear cH1 c0 c1 c2 c3;intro w2 HX2 c0 c1 c2 c3)
    |(go_at_call 71;refine ck4 (cB1 _) HX2.out.next (fun _ h=>h.box) ?_;clear cB1 c0 c1 c2 c3;intro w3 HX3 c0 c1 c2 c3)
    |((with_reducible refine stF 10 35 rfl rfl (W.heap.size+1) (xx) ?_ ?_ ?_ ?_);exact rfl;exact rfl;exact HX3.out.flt))
   have hf:=qxK HX3.out bwR (xx);refine qzl results176 hf (.string ⟨#[]⟩) (.int .i64 0) rfl rfl rfl rfl ⟨?_,hf.2⟩;rw[HE.out];rfl
  have hkb:=ltL hc;have hh:=qxO HL.out HI.out hc hp;rw[hh] at cH1;have hkl2:(k:Int)<lim:=by have:=HI.out.2;omega
  have hmn:=q2J HL.out hkb hkl2;obtain⟨nn,hnn⟩:∃nn:Nat,(nn:Int)=min (bs.length:Int) lim:=⟨(min (bs.length:Int) lim).toNat,by omega⟩
  rw[←hnn] at hmn;have hnl:nn≤bs.length:=by omega
  have hchar:=q0T HL.out (n:=nn) (p:=k) (m:=x-(k-i)) (by have:=HK.out.1;omega) HI.out hc hp (by omega) (qye bs i (k-i));rw[HR.out] at hchar;have cG:=fun V=>qyT V bs k nn ch hc hb (by omega);obtain⟨j,b,hbf⟩:∃j b,qgB bs nn k ch=(j,b):=⟨_,_,rfl⟩
  rw[hbf] at hchar cG;cases b
  ·simp only[] at hchar;obtain⟨hji,hjm,hje⟩:=hchar;have hjl:=hji.1;have cG2:∀V,Calls prog 68 #[.string ⟨bs.toArray⟩,.int .i64 k,.int .i64 nn] V fun e W'=>e=.returned (.tuple #[.int .i64 j,.bool false])∧V=W':=fun V=>(cG V).mono fun e W' h=>⟨h.1,h.2.symm⟩
   rw[if_neg (by omega)] at hje;have heq:((k:Int)+(j:Int)==wv)=false:=by simp;omega
   have HE:=qaa hje;have cB1:=fun V=>cB V (k+j) 9;rw[show((k+j:Nat):Int)=(k:Int)+(j:Int) by omega] at cB1;generalize qr0 bs l (k+j) 9=xx at *;clear HR hc hp hh cH cB hje hji hnn hbf cG HK hg
   go_wp2_with (first
    |(go_at_call 113;refine ck4 (cH1 _) HX.out.next (fun _ h=>h.box) ?_;clear cH1 c0 c1 c2 c3;intro w2 HX2 c0 c1 c2 c3)
    |(go_at_call 68;refine(cG2 _).mono ?_;clear cG2;rintro e w3 ⟨rfl,rfl⟩)
    |(go_at_call 71;refine ck4 (cB1 _) HX2.out.next (fun _ h=>h.box) ?_;clear cB1 c0 c1 c2 c3;intro w4 HX4 c0 c1 c2 c3)
    |((with_reducible refine stF 10 84 rfl rfl (W.heap.size+1) (xx) ?_ ?_ ?_ ?_);exact rfl;exact rfl;exact HX4.out.flt))
   have hf:=qxK HX4.out bwR (xx);refine qzl results176 hf (.string ⟨#[]⟩) (.int .i64 0) rfl rfl rfl rfl ⟨?_,hf.2⟩;rw[HE.out];rfl
  simp only[] at hchar;obtain⟨hj1,hji,hjm,hje⟩:=hchar;have hjl:=hji.1;have cG2:∀V,Calls prog 68 #[.string ⟨bs.toArray⟩,.int .i64 k,.int .i64 nn] V fun e W'=>e=.returned (.tuple #[.int .i64 j,.bool true])∧V=W':=fun V=>(cG V).mono fun e W' h=>⟨h.1,h.2.symm⟩
  have HN:Hid (qfg bs lim (x-(k+j-i)) (k+j) (qye bs i (k+j-i)) (qye bs i (k+j-i)).length=R):=by
   show _=_;have hik:=HK.out.1;have e:qye bs i (k-i)++qye bs k j=qye bs i (k+j-i):=by
    have h:=q2j bs i (k-i) j;rw[show i+(k-i)=k by omega,show k-i+j=k+j-i by omega] at h;exact h
   rw[e,show x-(k-i)-j=x-(k+j-i) by omega] at hje;exact hje.symm
  have HNI:=qaa hji;clear HR hc hp hh cH cB hje hji hnn hbf cG
  go_wp2_with (first
   |(go_at_call 113;refine ck4 (cH1 _) HX.out.next (fun _ h=>h.box) ?_;clear cH1 c0 c1 c2 c3;intro w2 HX2 c0 c1 c2 c3)
   |(go_at_call 68;refine(cG2 _).mono ?_;clear cG2;rintro e w3 ⟨rfl,rfl⟩))
  go_roundg (gk-j)
  case measure=>have:=hg.out;omega
  case rel=>exact⟨k+j,by go_num,by show _≤_;have:=hg.out;omega,HX2,HNI,⟨by have:=HK.out.1;omega,by have:=HK.out.1;omega⟩,HN⟩
def qzR (w:List UInt8):Prop:=∃u c,w=u++[c]∧qst u=true∧qc1 u c=2
def qzO (l:List UInt8):Prop:=∃ws:List (List UInt8),(∀w∈ws,qzR w)∧l=ws.flatten
theorem qzO.nil:qzO []:=⟨[],by simp,rfl⟩
theorem qzO.snoc (h:qzO l)(hw:qzR w):qzO (l++w):=by
 obtain⟨ws,h1,rfl⟩:=h;refine⟨ws++[w],fun x hx => ?_,by simp⟩;rcases List.mem_append.1 hx with h|h
 ·exact h1 x h
 simp at h;subst h;exact hw
theorem q1X (h:qzR w):(∃a,w=[a]∧a.toNat<128)∨(∃a b,w=[a,b]∧qxU a=2∧128≤b.toNat∧b.toNat≤191)∨(∃a b c,w=[a,b,c]∧qxU a=3∧qxZ a≤b.toNat∧b.toNat≤qyd a∧128≤c.toNat∧c.toNat≤191)∨(∃a b c d,w=[a,b,c,d]∧qxU a=4∧qxZ a≤b.toNat∧b.toNat≤qyd a∧128≤c.toNat∧c.toNat≤191∧128≤d.toNat∧d.toNat≤191):=by
 obtain⟨u,c,rfl,hp,ha⟩:=h
 match u,hp,ha with
 |[],_,ha =>
  left;refine⟨c,rfl,?_⟩;rw[qzp] at ha;split at ha
  ·cases ha
  split at ha
  ·rename_i h1
   unfold qxU at h1;split at h1
   ·assumption
   repeat' split at h1
   all_goals cases h1
  cases ha
 |[a],hp,ha =>
  right;left;simp only[qst,decide_eq_true_eq] at hp;obtain⟨_,_,h3,h4⟩:=qyw a;simp only[qc1] at ha;split at ha
  ·cases ha
  split at ha
  ·rename_i h1 h2
   obtain⟨k1,k2,k3,k4⟩:=h3 (by
    have:=(qyw a).1;have:=(qyw a).2.1;omega)
   refine⟨a,c,rfl,by omega,?_,?_⟩
   ·omega
   rw[k3] at h1;unfold qyd at h1;unfold qxU at k1
   repeat' split at h1
   all_goals omega
  cases ha
 |[a,b],hp,ha =>
  right;right;left;simp only[qst,decide_eq_true_eq] at hp;obtain⟨_,_,h3,h4⟩:=qyw a;simp only[qc1] at ha;split at ha
  ·cases ha
  split at ha
  ·rename_i h1 h2
   obtain⟨k1,k2,k3,k4⟩:=h3 (by
    have:=(qyw a).1;have:=(qyw a).2.1;omega)
   exact⟨a,b,c,rfl,by omega,by omega,by omega,by omega,by omega⟩
  cases ha
 |[a,b,d],hp,ha =>
  right;right;right;simp only[qst,decide_eq_true_eq] at hp;obtain⟨_,_,h3,h4⟩:=qyw a;simp only[qc1] at ha;split at ha
  ·cases ha
  rename_i h1
  obtain⟨k1,k2,k3,k4⟩:=h3 (by
   have:=(qyw a).1;have:=(qyw a).2.1;omega)
  exact⟨a,b,d,c,rfl,by omega,by omega,by omega,by omega,by omega,by omega,by omega⟩
 |_::_::_::_::_,hp,_=>simp[qst] at hp
theorem q3K (h:qzR w)(t:List UInt8):(decodeL (w++t)).2=w.length∧qmw (decodeL (w++t)).1=w.flatMap qB∧1≤w.length:=by
 have multi:∀{w:List UInt8} {r:Nat},2≤w.length→decodeL (w++t)=(r,w.length)→128≤r→(∀b∈w,128≤b.toNat)→(decodeL (w++t)).2=w.length∧qmw (decodeL (w++t)).1=w.flatMap qB∧1≤w.length:=fun {w r} hw hd hr hb=>by
  have he:=encode_decode (w++t) (by intro e;rw[List.append_eq_nil_iff] at e;rw[e.1] at hw;simp at hw) (by rw[hd];simp only[];omega);rw[hd] at he ⊢;simp only[] at he ⊢;rw[List.take_left] at he;refine⟨trivial,?_,by omega⟩;have e1:qmw r=qcD r:=by unfold qmw;rw[if_neg (by omega),if_neg (by omega)]
  have e2:qcD (r:Int)=w:=he;rw[e1,e2];clear he hd e1 e2 hw
  induction w with
  |nil=>rfl
  |cons b w ih =>
   have h1:=hb b (List.mem_cons_self ..);rw[List.flatMap_cons,←ih (fun x hx=>hb x (List.mem_cons_of_mem _ hx))];have e:qB b=[b]:=by unfold qB;rw[if_neg (by omega),if_neg (by omega)]
   rw[e];rfl
 rcases q1X h with ⟨a,rfl,h1⟩|⟨a,b,rfl,hk,h1,h2⟩|⟨a,b,c,rfl,hk,h1,h2,h3,h4⟩|⟨a,b,c,d,rfl,hk,h1,h2,h3,h4,h5,h6⟩
 ·rw[List.singleton_append,decodeL_ascii a t h1];refine⟨rfl,?_,by simp⟩;show qmw a.toNat=[a].flatMap qB;rw[List.flatMap_cons,List.flatMap_nil,List.append_nil];unfold qmw qB;split
  ·rw[UInt8.ofNat_toNat]
  split
  ·rfl
  unfold qcD;rw[encodeRuneZ_one (by omega) (by omega)];simp
 ·have hr:194≤a.toNat∧a.toNat≤223:=by
   unfold qxU at hk
   repeat' split at hk
   all_goals omega
  refine multi (r:=a.toNat%32*64+b.toNat%64) (by simp) ?_ (by omega) (by simp;omega);rw[decodeL_N];show decodeN (([a,b]++t).length) a.toNat b.toNat _ _=_;unfold decodeN;rw[if_neg (by omega),if_pos ⟨by omega,by simp,by omega⟩,if_pos (by omega)];rfl
 ·have hr:(a.toNat=224∧160≤b.toNat∧b.toNat≤191)∨(a.toNat=237∧128≤b.toNat∧b.toNat≤159)∨(225≤a.toNat∧a.toNat≤239∧a.toNat≠237∧128≤b.toNat∧b.toNat≤191):=by
   unfold qxU at hk;unfold qxZ at h1;unfold qyd at h2
   repeat' split at hk
   all_goals first|omega|skip
   repeat' split at h1
   all_goals first|omega|skip
   all_goals repeat' split at h2
   all_goals omega
  refine multi (r:=a.toNat%16*4096+b.toNat%64*64+c.toNat%64) (by simp) ?_ (by omega) (by simp;omega);rw[decodeL_N];show decodeN (([a,b,c]++t).length) a.toNat b.toNat c.toNat _=_;unfold decodeN;rw[if_neg (by omega),if_neg (by omega),if_pos ⟨by omega,⟨by simp,by omega⟩,by simp,by omega⟩,if_pos (by omega)];rfl
 have hr:(a.toNat=240∧144≤b.toNat∧b.toNat≤191)∨(a.toNat=244∧128≤b.toNat∧b.toNat≤143)∨(241≤a.toNat∧a.toNat≤243∧128≤b.toNat∧b.toNat≤191):=by
  unfold qxU at hk;unfold qxZ at h1;unfold qyd at h2
  repeat' split at hk
  all_goals first|omega|skip
  repeat' split at h1
  all_goals first|omega|skip
  all_goals repeat' split at h2
  all_goals omega
 refine multi (r:=a.toNat%8*262144+b.toNat%64*4096+c.toNat%64*64+d.toNat%64) (by simp) ?_ (by omega) (by simp;omega);rw[decodeL_N];show decodeN (([a,b,c,d]++t).length) a.toNat b.toNat c.toNat d.toNat=_;unfold decodeN;rw[if_neg (by omega),if_neg (by omega),if_neg (by omega),if_pos ⟨by omega,⟨by simp,by omega⟩,⟨by simp,by omega⟩,by simp,by omega⟩,if_pos (by omega)];rfl
theorem q2M:∀(ws:List (List UInt8)) (g:Nat),(∀w∈ws,qzR w)→ws.flatten.length≤g→qd5 g ws.flatten=ws.flatten.flatMap qB
 |[],g,_,_=>by rw[List.flatten_nil,qoY];rfl
 |w::ws,g,h,hg=>by
  obtain⟨h1,h2,h3⟩:=q3K (h w (List.mem_cons_self ..)) ws.flatten;rw[List.flatten_cons] at hg ⊢;rw[List.length_append] at hg;obtain⟨b,r,rfl⟩:∃b r,w=b::r:=by
   cases w with
   |nil=>simp at h3
   |cons b r=>exact⟨b,r,rfl⟩
  obtain⟨g,rfl⟩:∃g',g=g'+1:=⟨g-1,by omega⟩
  have e:qd5 (g+1) ((b::r)++ws.flatten)=qmw (decodeL ((b::r)++ws.flatten)).1++qd5 g (((b::r)++ws.flatten).drop (decodeL ((b::r)++ws.flatten)).2):=rfl;rw[e,h1,h2,List.drop_left,q2M ws g (fun w hw=>h w (List.mem_cons_of_mem _ hw)) (by omega),List.flatMap_append]
theorem q5D (h:qzO l):jsT l=qT l:=by
 obtain⟨ws,h1,rfl⟩:=h;unfold jsT qT;rw[q2M ws _ h1 (Nat.le_refl _)]
theorem q2u (a:List UInt8)(c:UInt8)(h:qst a=true)(h2:qc1 a c=2):qzR (a++[c]):=⟨a,c,rfl,h,h2⟩
theorem q6N (a:UInt8)(h:a.toNat<128):qzR [a]:=by
 refine⟨[],a,rfl,rfl,?_⟩;have e:qxU a=1:=by unfold qxU;rw[if_pos h]
 rw[qzp,if_neg (by omega),if_pos e]
theorem q6R (a b:UInt8)(ha:qxU a=2)(h1:qxZ a≤b.toNat)(h2:b.toNat≤qyd a):qzR [a,b]:=by
 obtain⟨k1,k2,k3,_⟩:=(qyw a).2.2.1 (by omega);refine⟨[a],b,rfl,by simp only[qst,decide_eq_true_eq];omega,?_⟩;simp only[qc1];rw[if_neg (by omega),if_pos (by omega)]
theorem q54 (a b c:UInt8)(ha:qxU a=3)(h1:qxZ a≤b.toNat)(h2:b.toNat≤qyd a)(h3:128≤c.toNat)(h4:c.toNat≤191):qzR [a,b,c]:=by
 obtain⟨k1,k2,k3,_⟩:=(qyw a).2.2.1 (by omega);refine⟨[a,b],c,rfl,by simp only[qst,decide_eq_true_eq];omega,?_⟩;simp only[qc1];rw[if_neg (by omega),if_pos (by omega)]
theorem q6I (a b c d:UInt8)(ha:qxU a=4)(h1:qxZ a≤b.toNat)(h2:b.toNat≤qyd a)(h3:128≤c.toNat)(h4:c.toNat≤191)(h5:128≤d.toNat)(h6:d.toNat≤191):qzR [a,b,c,d]:=by
 obtain⟨k1,k2,k3,_⟩:=(qyw a).2.2.1 (by omega);refine⟨[a,b,c],d,rfl,by simp only[qst,decide_eq_true_eq];omega,?_⟩;simp only[qc1];rw[if_neg (by omega)]
theorem q4A (x:Int)(h:0≤x∧x≤255):(UInt8.ofNat x.toNat).toNat=x.toNat:=u8n _ (by omega)
theorem q3g (r:Int):qzR (qcD r):=by
 unfold qcD;by_cases h1:0≤r∧r≤127
 ·rw[encodeRuneZ_one h1.1 h1.2];exact q6N _ (by rw[q4A _ (by omega)];omega)
 by_cases h2:128≤r∧r≤2047
 ·rw[encodeRuneZ_two h2.1 h2.2];have e1:=q4A (192+r / 64) (by omega);have e2:=q4A (128+r%64) (by omega);refine q6R _ _ ?_ ?_ ?_
  ·unfold qxU;rw[e1,if_neg (by omega),if_neg (by omega),if_pos (by omega)]
  ·unfold qxZ;rw[e1,e2];repeat' split
   all_goals omega
  unfold qyd;rw[e1,e2];repeat' split
  all_goals omega
 by_cases h3:(2048≤r∧r<55296)∨(57343<r∧r≤65535)
 ·rw[encodeRuneZ_three h3];have e1:=q4A (224+r / 4096) (by omega);have e2:=q4A (128+r / 64%64) (by omega);have e3:=q4A (128+r%64) (by omega);refine q54 _ _ _ ?_ ?_ ?_ (by rw[e3];omega) (by rw[e3];omega)
  ·unfold qxU;rw[e1,if_neg (by omega),if_neg (by omega),if_neg (by omega),if_pos (by omega)]
  ·unfold qxZ;rw[e1,e2];repeat' split
   all_goals omega
  unfold qyd;rw[e1,e2];repeat' split
  all_goals omega
 by_cases h4:65536≤r∧r≤1114111
 ·rw[encodeRuneZ_four h4.1 h4.2];have e1:=q4A (240+r / 262144) (by omega);have e2:=q4A (128+r / 4096%64) (by omega);have e3:=q4A (128+r / 64%64) (by omega);have e4:=q4A (128+r%64) (by omega);refine q6I _ _ _ _ ?_ ?_ ?_ (by rw[e3];omega) (by rw[e3];omega) (by rw[e4];omega) (by rw[e4];omega)
  ·unfold qxU;rw[e1,if_neg (by omega),if_neg (by omega),if_neg (by omega),if_neg (by omega),if_pos (by omega)]
  ·unfold qxZ;rw[e1,e2];repeat' split
   all_goals omega
  unfold qyd;rw[e1,e2];repeat' split
  all_goals omega
 rw[encodeRuneZ_bad (by omega)];exact q54 239 191 189 (by decide) (by decide) (by decide) (by decide) (by decide)
theorem qyi.key {es:List (Lit×DataW Unit)}{i:Nat}{key:Lit}{d:DataW Unit}(h:es[i]? = some (key,d))(e:key=.string l):es[i]? = some (.string l,d):=e▸h
theorem q6h (k:Nat)(W:World)(F:Nat→Prop)(kv u:Value)(xs:List Value)(es:List (Lit×DataW Unit))(f:DataW Unit→List UInt8)(hF:∀j,F j→j<W.heap.size)(hq:qb1 W 9 1 F kv es.length (es.map q6v))(hr:qb1 W 93 5 F u es.length xs)(ha:∀(i:Nat) (key:Lit) (d:DataW Unit),es[i]? = some (key,d)→∃l a,key=.string l∧qzH xs i a∧qyi k W F (.agg a) d)(hl:(qaj 5 es.length++es.flatMap fun e=>(qaj 3 (qb7 e.1).length++qb7 e.1)++f e.2).length≤999999999)(ih:∀(V:World) (a:Array Value) (d:DataW Unit),(∀j,F j→j<V.heap.size)→qyi k V F (.agg a) d→(f d).length≤999999999→Calls prog 73 #[.agg a] V (WrS (f d) V)):Calls prog 73 #[.agg (thA 7 0 ⟨#[]⟩ kv u)] W (WrS (qaj 5 es.length++es.flatMap fun e=>(qaj 3 (qb7 e.1).length++qb7 e.1)++f e.2) W):=by
 obtain⟨hn,a,cap,rfl,HC⟩:=qyC hr;obtain⟨b,capb,rfl,HQ⟩:=qzZ hq;obtain⟨fe,HFE⟩:∃fe:Lit×DataW Unit→List UInt8,Hid ((fun e=>(qaj 3 (qb7 e.1).length++qb7 e.1)++f e.2)=fe):=⟨_,show _=_ from rfl⟩
 rw[HFE.out] at hl ⊢;have HX:Hid (qyP W (thA 7 0 ⟨#[]⟩ (.slice b es.length capb) (.slice a es.length cap)) (W.alloc (.cells (thA 7 0 ⟨#[]⟩ (.slice b es.length capb) (.slice a es.length cap)) 93))):=qy6 _ _;have c:=fun V=>qyk V 5 es.length (by decide) hn;obtain⟨n,hN⟩:∃n,es.length=n:=⟨_,rfl⟩
 obtain⟨h0,H0⟩:∃h0,Hid (qaj 5 es.length=h0):=⟨_,show _=_ from rfl⟩
 have HKID:Hid (∀i,i<n→∃e l fd g gk kd z s ka ki kj va vi vj,es[i]? = some e∧fe e=(qaj 3 l.length++l)++fd∧a=some ⟨g,0,none⟩∧b=some ⟨gk,0,none⟩∧(∀V,Below W.heap.size W V→V.cell? ⟨gk,i,none⟩=some (.string ⟨l.toArray⟩)∧(V.cell? ⟨g,i*5,none⟩=some (.int .i64 kd)∧V.cell? ⟨g,i*5+1,none⟩=some (.int .i64 z)∧V.cell? ⟨g,i*5+2,none⟩=some (.string s)∧V.cell? ⟨g,i*5+3,none⟩=some (.slice ka ki kj)∧V.cell? ⟨g,i*5+4,none⟩=some (.slice va vi vj))∧Calls prog 73 #[.agg #[.int .i64 kd,.int .i64 z,.string s,.slice ka ki kj,.slice va vi vj]] V (WrS fd V))):=fun i hi=>by
  obtain⟨⟨key,d⟩,hd⟩:∃e,es[i]? = some e:=⟨_,List.getElem?_eq_getElem (by omega)⟩
  obtain⟨l,A,hkl,hs,hA⟩:=ha i key d hd;subst hkl;obtain⟨kd,z,s,ka,ki,kj,va,vi,vj,e⟩:=hA.shape;injection e with e;subst e;obtain⟨g,ea,hg,hc⟩:=HC i _ (by omega) hs;obtain⟨gk,eb,hgk,hck⟩:=HQ i l d hd;have hfe:fe (.string l,d)=(qaj 3 l.length++l)++f d:=by rw[←HFE.out];rfl
  have hfl:(f d).length≤999999999:=by
   have h1:=qyr fe es i _ hd;have h2:=qyx fe es (i+1);rw[h1,hfe,List.length_append,List.length_append] at h2;rw[List.length_append] at hl;omega
  refine⟨(.string l,d),l,f d,g,gk,kd,z,s,ka,ki,kj,va,vi,vj,hd,hfe,ea,eb,fun V hV=>⟨hck V (hV.block gk (hF gk hgk)),?_,ih V _ d (fun j hj=>Nat.lt_of_lt_of_le (hF j hj) hV.size) (hA.same (fun _ h=>h) (fun j hj=>hV.block j (hF j hj))) hfl⟩⟩;have hb:=hV.block g (hF g hg);exact⟨hc V hb 0 (by decide),hc V hb 1 (by decide),hc V hb 2 (by decide),hc V hb 3 (by decide),hc V hb 4 (by decide)⟩
 have HL:Hid (∀i,(h0++(es.take i).flatMap fe).length≤999999999):=fun i=>by
  have:=qyx fe es i;rw[←H0.out];rw[List.length_append] at hl ⊢;omega
 have HT:Hid (es.flatMap fe=(es.take n).flatMap fe):=by show _=_;rw[←hN,List.take_length]
 rw[HT.out];rw[H0.out] at c ⊢;rw[hN] at c HX hn ⊢;have HS:Hid (∀i d,es[i]? = some d→h0++(es.take (i+1)).flatMap fe=(h0++(es.take i).flatMap fe)++fe d):=fun i d hd=>by rw[qyr fe es i d hd,List.append_assoc]
 have cK:∀(V:World) (l:List UInt8),l.length≤999999999→Calls prog 119 #[.int .i64 3,.int .i64 l.length] V (WrS (qaj 3 l.length) V):=fun V l h=>qyk V 3 l.length (by decide) (by omega);unfold thA at *;go_enter func73,ntmps73
 go_wp2_with (first|(go_at_call 119;refine(c _).mono ?_;rintro e w2 ⟨rfl,hB2⟩;unfold qxX))
 go_loopg [5,6] n (fun g zs zi wr=>∃(i:Nat) (cur:List UInt8),zs=.string ⟨cur.toArray⟩∧zi=.int .i64 i∧Hid (i+g=n)∧Hid (cur=h0++(es.take i).flatMap fe)∧Hid (qyP W #[.int .i64 7,.int .i64 0,.string ⟨#[]⟩,.slice b n capb,.slice a n cap] wr))
 case atStart=>exact⟨0,h0,rfl,rfl,by show _=_;omega,by show _=_;simp,HX.out.next hB2⟩
 case round =>
  obtain⟨i,cur,rfl,rfl,hg,hcur,HX⟩:=hrel;have c4:=qab HX.out.box 4
  cases gk with
  |zero =>
   obtain rfl:i=n:=hg.out;have hlt:¬(i:Int)<(i:Int):=by omega
   go_wp2;go_ret;rw[←hcur.out];exact⟨rfl,HX.out.below⟩
  |succ g =>
   have hin:i<n:=by have:=hg.out;omega
   have hlt:(i:Int)<(n:Int):=by omega
   obtain⟨ee,l,fd,gb,gk,kd,z,s,ka,ki,kj,va,vi,vj,hd,hfe,rfl,rfl,hk⟩:=HKID.out i hin;obtain⟨c1,HC1⟩:∃c1,Hid (cur++qaj 3 l.length=c1):=⟨_,show _=_ from rfl⟩
   obtain⟨cc,HCC⟩:∃cc,Hid (c1++l=cc):=⟨_,show _=_ from rfl⟩
   have HN:Hid (h0++(es.take (i+1)).flatMap fe=cc++fd):=by show _=_;rw[HS.out i ee hd,←hcur.out,hfe,←HCC.out,←HC1.out];simp only[List.append_assoc]
   have hl3:l.length≤999999999∧¬(cur.length+(qaj 3 l.length).length>9223372036854775807)∧¬(c1.length+l.length>9223372036854775807)∧¬(cc.length+fd.length>9223372036854775807):=by
    have h1:=HL.out (i+1);rw[HN.out,List.length_append] at h1;have h2:cc.length=c1.length+l.length:=by rw[←HCC.out,List.length_append]
    have h3:c1.length=cur.length+(qaj 3 l.length).length:=by rw[←HC1.out,List.length_append]
    omega
   obtain⟨hl3,g1,g2,g3⟩:=hl3;have HK:Hid (∀V,qyP W #[.int .i64 7,.int .i64 0,.string ⟨#[]⟩,.slice (some ⟨gk,0,none⟩) n capb,.slice (some ⟨gb,0,none⟩) n cap] V→V.cell? ⟨gk,i,none⟩=some (.string ⟨l.toArray⟩)∧(V.cell? ⟨gb,i*5,none⟩=some (.int .i64 kd)∧V.cell? ⟨gb,i*5+1,none⟩=some (.int .i64 z)∧V.cell? ⟨gb,i*5+2,none⟩=some (.string s)∧V.cell? ⟨gb,i*5+3,none⟩=some (.slice ka ki kj)∧V.cell? ⟨gb,i*5+4,none⟩=some (.slice va vi vj))∧Calls prog 73 #[.agg #[.int .i64 kd,.int .i64 z,.string s,.slice ka ki kj,.slice va vi vj]] V (WrS fd V)):=fun V hV=>hk V hV.below;have ck:=fun V=>cK V l hl3
   go_wp2_with fail
   refine rgn (S:=qyP W #[.int .i64 7,.int .i64 0,.string ⟨#[]⟩,.slice (some ⟨gk,0,none⟩) n capb,.slice (some ⟨gb,0,none⟩) n cap]) HX.out.drew (by kernel_rfl) ?_;intro hS;refine tkk 0 84 (.string ⟨cur.toArray⟩) (by kernel_rfl) iQ3 hS ?_;refine tkk 1 85 (.pointer (some ⟨W.heap.size,3,none⟩)) (by kernel_rfl) iQ3 hS ?_;refine tk 2 86 (.slice (some ⟨gk,0,none⟩) n capb) rfl (by kernel_rfl) iQ3 (fun Z hZ => ?y2) hS ?_
   case y2=>(have hz:=qab hZ.box 3;go_simp)
   refine tkk 3 87 (.int .i64 i) (by kernel_rfl) iQ3 hS ?_;refine tk 4 88 (.pointer (some ⟨gk,i,none⟩)) rfl (by kernel_rfl) iQ3 (fun Z hZ => ?y4) hS ?_
   case y4=>go_simp
   refine tk 5 89 (.string ⟨l.toArray⟩) rfl (by kernel_rfl) iQ3 (fun Z hZ => ?y5) hS ?_
   case y5=>(have hz:=(HK.out Z hZ).1;go_simp)
   refine tk 6 90 (.int .i64 l.length) rfl (by kernel_rfl) iQ3 (fun Z hZ => ?y6) hS ?_
   case y6=>go_simp
   refine tkk 9 93 (.pointer (some ⟨W.heap.size,3,none⟩)) (by kernel_rfl) iQ3 hS ?_;refine tk 10 94 (.slice (some ⟨gk,0,none⟩) n capb) rfl (by kernel_rfl) iQ3 (fun Z hZ => ?z2) hS ?_
   case z2=>(have hz:=qab hZ.box 3;go_simp)
   refine tkk 11 95 (.int .i64 i) (by kernel_rfl) iQ3 hS ?_;refine tk 12 96 (.pointer (some ⟨gk,i,none⟩)) rfl (by kernel_rfl) iQ3 (fun Z hZ => ?z4) hS ?_
   case z4=>go_simp
   refine tk 13 97 (.string ⟨l.toArray⟩) rfl (by kernel_rfl) iQ3 (fun Z hZ => ?z5) hS ?_
   case z5=>(have hz:=(HK.out Z hZ).1;go_simp)
   refine tkk 15 99 (.pointer (some ⟨W.heap.size,4,none⟩)) (by kernel_rfl) iQ3 hS ?_;refine tk 16 100 (.slice (some ⟨gb,0,none⟩) n cap) rfl (by kernel_rfl) iQ3 (fun Z hZ => ?x2) hS ?_
   case x2=>(have hz:=qab hZ.box 4;go_simp)
   refine tkk 17 101 (.int .i64 i) (by kernel_rfl) iQ3 hS ?_;refine tk 18 102 (.pointer (some ⟨gb,i*5,none⟩)) rfl (by kernel_rfl) iQ3 (fun Z hZ => ?x4) hS ?_
   case x4=>go_simp
   refine tk 19 103 (.agg #[.int .i64 kd,.int .i64 z,.string s,.slice ka ki kj,.slice va vi vj]) rfl (by kernel_rfl) iQ3 (fun Z hZ => ?x5) hS ?_
   case x5=>(obtain⟨k0,k1,k2,k3,k4⟩:=(HK.out Z hZ).2.1;go_simp)
   refine rdH 7 rfl (by kernel_rfl) (fun K hK => ?_);go_simp;refine(ck _).mono ?_;rintro e w2 ⟨rfl,hB2⟩;have hS2:=hS.next hB2
   refine hK.out _ _ hS2 (fun _ => ?_);refine tk 8 92 (qxX c1) rfl (by kernel_rfl) iQ3 (fun Z hZ => ?u1) hS2 ?_
   case u1=>(unfold qxX;go_simp;rw[←HC1.out];exact qxF _ _)
   refine tk 14 98 (qxX cc) rfl (by kernel_rfl) iQ3 (fun Z hZ => ?u2) hS2 ?_
   case u2=>(unfold qxX;go_simp;rw[←HCC.out];exact qxF _ _)
   refine rdH 20 rfl (by kernel_rfl) (fun K hK => ?_);go_simp;refine(HK.out _ hS2).2.2.mono ?_;rintro e w3 ⟨rfl,hB3⟩;have hS3:=hS2.next hB3
   refine hK.out _ _ hS3 (fun _ => ?_);refine tk 21 105 (qxX (cc++fd)) rfl (by kernel_rfl) iQ3 (fun Z hZ => ?u3) hS3 ?_
   case u3=>(unfold qxX;go_simp;exact qxF _ _)
   refine tkk 22 5 (qxX (cc++fd)) (by kernel_rfl) iQ3 hS3 ?_;refine wpAnyH_done (by kernel_rfl) ?_ _;go_wp2;go_roundg g
   case measure=>omega
   case rel=>exact⟨i+1,_,rfl,by go_num,by show _=_;have:=hg.out;omega,HN.out.symm,hS3⟩
end
end Go.Proofs.YtllcbnfmihfaaaaGreatDoor
