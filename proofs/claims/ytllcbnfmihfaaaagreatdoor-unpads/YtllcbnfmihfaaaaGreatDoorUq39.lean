import Derived.Test.YtllcbnfmihfaaaaGreatDoorUq38
import Derived.Test.YtllcbnfmihfaaaaGreatDoorUq24
set_option maxRecDepth 100000
set_option maxHeartbeats 8000000
namespace Go.Proofs.YtllcbnfmihfaaaaGreatDoor
open Go.Proofs.Tryz
section
open Go.RowKit Go.Lib
theorem qnN (W:World)(bs:List UInt8)(fm d l lim:Int)(i x:Nat)(hl:Lm bs l lim)(hi:InR bs lim i)(hb:bs.length≤200000000)(hx:x≤bs.length):Calls prog 176 #[.agg (inA bs fm d l),.int .i64 i,.int .i64 (x:Int),.bool true] W fun e W'=>qlZ (qbt bs lim x i [] 0) e∧Below W.heap.size W W':=by
 obtain⟨R,HR⟩:∃R,Hid (qbt bs lim x i [] 0=R):=⟨_,show _=_ from rfl⟩
 rw[HR.out]
 have hsz:=qaS bs
 have hil:=hi.1
 have HL:Hid (Lm bs l lim):=hl
 have HI:Hid (InR bs lim i):=hi
 have cH:=qdb bs fm d l
 have cB:=qdu bs fm d l
 have HX:=qbB W bs fm d l
 clear hl hi
 unfold inA
 go_enter func176,ntmps176
 go_wp2
 go_loopg [11] (bs.length+1-i) (fun g z wr=>∃k:Nat,z=.int .i64 k∧Hid (bs.length+1≤k+g)∧Hid (RIn W (inA bs fm d l) (W.heap.size+1) wr)∧Hid (InR bs lim k)∧Hid (i≤k∧k-i≤x)∧Hid (qbt bs lim (x-(k-i)) (k) (qaL bs i (k-i)) (qaL bs i (k-i)).length=R))
 case atStart=>exact⟨i,rfl,by show _≤_;omega,HX,HI,⟨Nat.le_refl _,by omega⟩,by show _=_;rw[Nat.sub_self,qcI,Nat.sub_zero];exact HR.out⟩
 case round =>
  clear HR HX HI
  obtain⟨k,rfl,hg,HX,HI,HK,HR⟩:=hrel
  have hkl:=HI.out.1
  obtain⟨c0,c1,c2,c3⟩:=qa3 HX.out.box
  by_cases hkx:k-i=x
  ·have HE:Hid (R=.ok (qaL bs i x,k)):=by
    show _=_
    have h:=HR.out
    rw[hkx,Nat.sub_self] at h
    rw[←h]
    unfold qbt
    rw[if_pos rfl]
   have hik:=HK.out.1
   have hlt:¬(k:Int)<(i:Int)+(x:Int):=by omega
   have hng:¬(bs.length:Int)<(x:Int):=by omega
   have HEX:Hid ((⟨bs.toArray⟩:ByteArray).extract (i:Int).toNat (k:Int).toNat=⟨(qaL bs i x).toArray⟩):=by
    show _=_
    rw[show(i:Int).toNat=i by omega,show(k:Int).toNat=i+x by omega]
    exact qf2 bs i x
   have hik2:(i:Int)≤(k:Int):=by omega
   have hkl2:(k:Int)≤(bs.length:Int):=by omega
   clear HR cH cB HK hg
   go_wp2_with (first
    |((with_reducible refine stF 10 95 rfl rfl (W.heap.size+1) (0,0) ?_ ?_ ?_ ?_);exact rfl;exact rfl;exact HX.out.flt))
   have hf:=qay HX.out bwR (0,0)
   refine qcc results176 hf (.string ((⟨bs.toArray⟩:ByteArray).extract (i:Int).toNat (k:Int).toNat)) (.int .i64 k) rfl rfl rfl rfl ⟨?_,hf.2⟩
   rw[HE.out,HEX.out]
   rfl
  ·have hkx2:k-i<x:=by have:=HK.out.2;omega
   have hlt:(k:Int)<(i:Int)+(x:Int):=by omega
   have hle:(x:Int)≤(bs.length:Int):=by omega
   have cH1:=fun V=>cH V k
   rcases qcm (bs:=bs) (lim:=lim) k with hno|⟨ch,hc,hp⟩
   ·obtain⟨h1,h2⟩:=qk0 (m:=x-(k-i)) (wh:=(qaL bs i (k-i)).length) (acc:=qaL bs i (k-i)) (by omega) HI.out HL.out hno
    have HE:Hid (R=.error (qaI bs l k 9)):=HR.out.symm.trans h1
    rw[h2] at cH1
    have cB1:=fun V=>cB V k 9
    generalize qaI bs l k 9=xx at *
    clear HR h1 h2 hno cH cB HK hg
    go_wp2_with (first
     |(go_at_call 113;refine ck4 (cH1 _) HX.out.next (fun _ h=>h.box) ?_;clear cH1 c0 c1 c2 c3;intro w2 HX2 c0 c1 c2 c3)
     |(go_at_call 71;refine ck4 (cB1 _) HX2.out.next (fun _ h=>h.box) ?_;clear cB1 c0 c1 c2 c3;intro w3 HX3 c0 c1 c2 c3)
     |((with_reducible refine stF 10 35 rfl rfl (W.heap.size+1) (xx) ?_ ?_ ?_ ?_);exact rfl;exact rfl;exact HX3.out.flt))
    have hf:=qay HX3.out bwR (xx)
    refine qcc results176 hf (.string ⟨#[]⟩) (.int .i64 0) rfl rfl rfl rfl ⟨?_,hf.2⟩
    rw[HE.out]
    rfl
   ·have hkb:=ltL hc
    have hh:=qa7 HL.out HI.out hc hp
    rw[hh] at cH1
    have hkl2:(k:Int)<lim:=by have:=HI.out.2;omega
    have hmn:=qiZ HL.out hkb hkl2
    obtain⟨nn,hnn⟩:∃nn:Nat,(nn:Int)=min (bs.length:Int) lim:=⟨(min (bs.length:Int) lim).toNat,by omega⟩
    rw[←hnn] at hmn
    have hnl:nn≤bs.length:=by omega
    obtain⟨n2,hn2⟩:∃n2:Nat,min (nn:Int) ((i:Int)+(x:Int))=(n2:Int):=⟨(min (nn:Int) ((i:Int)+(x:Int))).toNat,by omega⟩
    have hnl2:n2≤bs.length:=by omega
    have hchar:=qfL HL.out (n:=n2) (p:=k) (m:=x-(k-i)) (by have:=HK.out.1;omega) HI.out hc hp (by omega) (qaL bs i (k-i))
    rw[HR.out] at hchar
    have cG:=fun V=>qcC V bs k n2 ch hc hb (by omega)
    obtain⟨j,b,hbf⟩:∃j b,qkn bs n2 k ch=(j,b):=⟨_,_,rfl⟩
    rw[hbf] at hchar cG
    cases b
    ·simp only[] at hchar
     obtain⟨hji,hjm,hje⟩:=hchar
     have hjl:k+j≤bs.length:=hji.1
     have cG2:∀V,Calls prog 68 #[.string ⟨bs.toArray⟩,.int .i64 k,.int .i64 n2] V fun e W'=>e=.returned (.tuple #[.int .i64 j,.bool false])∧V=W':=fun V=>(cG V).mono fun e W' h=>⟨h.1,h.2.symm⟩
     by_cases hjx:j=x-(k-i)
     ·rw[if_pos hjx] at hje
      have hik:=HK.out.1
      obtain⟨kj,hkj⟩:∃kj,kj+1=k+j:=⟨k+j-1,by omega⟩
      have HE:Hid (R=.error (9,(kj:Int))):=by
       show _=_
       rw[hje]
       congr 2
       omega
      have cB1:∀V,Calls prog 71 #[.agg #[.string ⟨bs.toArray⟩,.int .i64 fm,.int .i64 d,.int .i64 l],.int .i64 ((k:Int)+(j:Int)-1),.int .i64 9] V fun e W'=>e=.returned (.agg (qae (9,(kj:Int))))∧Below V.heap.size V W':=fun V=>by
       have h:=cB V kj 9
       rw[qe1 HL.out (by rw[hkj];exact hji),show(kj:Int)=(k:Int)+(j:Int)-1 by omega] at h
       rw[show(kj:Int)=(k:Int)+(j:Int)-1 by omega]
       exact h
      have heq:((k:Int)+(j:Int)==(i:Int)+(x:Int))=true:=by simp;omega
      have hj1:1≤(k:Int)+(j:Int):=by omega
      clear HR hc hp hh cH cB hje hji hjx hnn hbf cG hkj HK hg hik
      go_wp2_with (first
       |(go_at_call 113;refine ck4 (cH1 _) HX.out.next (fun _ h=>h.box) ?_;clear cH1 c0 c1 c2 c3;intro w2 HX2 c0 c1 c2 c3)
       |(go_at_call 68;refine(cG2 _).mono ?_;clear cG2;rintro e w3 ⟨rfl,rfl⟩)
       |(go_at_call 71;refine ck4 (cB1 _) HX2.out.next (fun _ h=>h.box) ?_;clear cB1 c0 c1 c2 c3;intro w4 HX4 c0 c1 c2 c3)
       |((with_reducible refine stF 10 77 rfl rfl (W.heap.size+1) (9,(kj:Int)) ?_ ?_ ?_ ?_);exact rfl;exact rfl;exact HX4.out.flt))
      have hf:=qay HX4.out bwR (9,(kj:Int))
      refine qcc results176 hf (.string ⟨#[]⟩) (.int .i64 0) rfl rfl rfl rfl ⟨?_,hf.2⟩
      rw[HE.out]
      rfl
     ·rw[if_neg hjx] at hje
      have hik:=HK.out.1
      have heq:((k:Int)+(j:Int)==(i:Int)+(x:Int))=false:=by simp;omega
      have HE:Hid (R=.error (qaI bs l (k+j) 9)):=hje
      have cB1:=fun V=>cB V (k+j) 9
      rw[show((k+j:Nat):Int)=(k:Int)+(j:Int) by omega] at cB1
      generalize qaI bs l (k+j) 9=xx at *
      clear HR hc hp hh cH cB hje hji hnn hbf cG HK hg hjx hik
      go_wp2_with (first
       |(go_at_call 113;refine ck4 (cH1 _) HX.out.next (fun _ h=>h.box) ?_;clear cH1 c0 c1 c2 c3;intro w2 HX2 c0 c1 c2 c3)
       |(go_at_call 68;refine(cG2 _).mono ?_;clear cG2;rintro e w3 ⟨rfl,rfl⟩)
       |(go_at_call 71;refine ck4 (cB1 _) HX2.out.next (fun _ h=>h.box) ?_;clear cB1 c0 c1 c2 c3;intro w4 HX4 c0 c1 c2 c3)
       |((with_reducible refine stF 10 84 rfl rfl (W.heap.size+1) (xx) ?_ ?_ ?_ ?_);exact rfl;exact rfl;exact HX4.out.flt))
      have hf:=qay HX4.out bwR (xx)
      refine qcc results176 hf (.string ⟨#[]⟩) (.int .i64 0) rfl rfl rfl rfl ⟨?_,hf.2⟩
      rw[HE.out]
      rfl
    ·simp only[] at hchar
     obtain⟨hj1,hji,hjm,hje⟩:=hchar
     have hjl:k+j≤bs.length:=hji.1
     have cG2:∀V,Calls prog 68 #[.string ⟨bs.toArray⟩,.int .i64 k,.int .i64 n2] V fun e W'=>e=.returned (.tuple #[.int .i64 j,.bool true])∧V=W':=fun V=>(cG V).mono fun e W' h=>⟨h.1,h.2.symm⟩
     have HN:Hid (qbt bs lim (x-(k+j-i)) (k+j) (qaL bs i (k+j-i)) (qaL bs i (k+j-i)).length=R):=by
      show _=_
      have hik:=HK.out.1
      have e:qaL bs i (k-i)++qaL bs k j=qaL bs i (k+j-i):=by
       have h:=qid bs i (k-i) j
       rw[show i+(k-i)=k by omega,show k-i+j=k+j-i by omega] at h
       exact h
      rw[e,show x-(k-i)-j=x-(k+j-i) by omega] at hje
      exact hje.symm
     have HNI:Hid (InR bs lim (k+j)):=hji
     clear HR hc hp hh cH cB hje hji hnn hbf cG
     go_wp2_with (first
      |(go_at_call 113;refine ck4 (cH1 _) HX.out.next (fun _ h=>h.box) ?_;clear cH1 c0 c1 c2 c3;intro w2 HX2 c0 c1 c2 c3)
      |(go_at_call 68;refine(cG2 _).mono ?_;clear cG2;rintro e w3 ⟨rfl,rfl⟩))
     go_roundg (gk-j)
     case measure=>have:=hg.out;omega
     case rel=>exact⟨k+j,by go_num,by show _≤_;have:=hg.out;omega,HX2,HNI,⟨by have:=HK.out.1;omega,by have:=HK.out.1;omega⟩,HN⟩
theorem qok (W:World)(bs:List UInt8)(fm d l lim:Int)(i x:Nat)(hl:Lm bs l lim)(hi:InR bs lim i)(hb:bs.length≤200000000)(n:Int)(hx:bs.length<x)(hn1:(bs.length:Int)<n)(hn2:(i:Int)+n≤9223372036854775807):Calls prog 176 #[.agg (inA bs fm d l),.int .i64 i,.int .i64 n,.bool true] W fun e W'=>qlZ (qbt bs lim x i [] 0) e∧Below W.heap.size W W':=by
 obtain⟨R,HR⟩:∃R,Hid (qbt bs lim x i [] 0=R):=⟨_,show _=_ from rfl⟩
 rw[HR.out]
 have hsz:=qaS bs
 have hil:=hi.1
 have HL:Hid (Lm bs l lim):=hl
 have HI:Hid (InR bs lim i):=hi
 have cH:=qdb bs fm d l
 have cB:=qdu bs fm d l
 have HX:=qbB W bs fm d l
 clear hl hi
 unfold inA
 go_enter func176,ntmps176
 go_wp2
 go_loopg [11] (bs.length+1-i) (fun g z wr=>∃k:Nat,z=.int .i64 k∧Hid (bs.length+1≤k+g)∧Hid (RIn W (inA bs fm d l) (W.heap.size+1) wr)∧Hid (InR bs lim k)∧Hid (i≤k∧k-i≤x)∧Hid (qbt bs lim (x-(k-i)) (k) (qaL bs i (k-i)) (qaL bs i (k-i)).length=R))
 case atStart=>exact⟨i,rfl,by show _≤_;omega,HX,HI,⟨Nat.le_refl _,by omega⟩,by show _=_;rw[Nat.sub_self,qcI,Nat.sub_zero];exact HR.out⟩
 case round =>
  clear HR HX HI
  obtain⟨k,rfl,hg,HX,HI,HK,HR⟩:=hrel
  have hkl:=HI.out.1
  obtain⟨c0,c1,c2,c3⟩:=qa3 HX.out.box
  have hkx2:k-i<x:=by omega
  have hlt:(k:Int)<(i:Int)+n:=by omega
  have hni : -9223372036854775808≤(i:Int)+n:=by omega
  have hnle:¬n≤(bs.length:Int):=by omega
  have cH1:=fun V=>cH V k
  rcases qcm (bs:=bs) (lim:=lim) k with hno|⟨ch,hc,hp⟩
  ·obtain⟨h1,h2⟩:=qk0 (m:=x-(k-i)) (wh:=(qaL bs i (k-i)).length) (acc:=qaL bs i (k-i)) (by omega) HI.out HL.out hno
   have HE:Hid (R=.error (qaI bs l k 9)):=HR.out.symm.trans h1
   rw[h2] at cH1
   have cB1:=fun V=>cB V k 9
   generalize qaI bs l k 9=xx at *
   clear HR h1 h2 hno cH cB HK hg
   go_wp2_with (first
    |(go_at_call 113;refine ck4 (cH1 _) HX.out.next (fun _ h=>h.box) ?_;clear cH1 c0 c1 c2 c3;intro w2 HX2 c0 c1 c2 c3)
    |(go_at_call 71;refine ck4 (cB1 _) HX2.out.next (fun _ h=>h.box) ?_;clear cB1 c0 c1 c2 c3;intro w3 HX3 c0 c1 c2 c3)
    |((with_reducible refine stF 10 35 rfl rfl (W.heap.size+1) (xx) ?_ ?_ ?_ ?_);exact rfl;exact rfl;exact HX3.out.flt))
   have hf:=qay HX3.out bwR (xx)
   refine qcc results176 hf (.string ⟨#[]⟩) (.int .i64 0) rfl rfl rfl rfl ⟨?_,hf.2⟩
   rw[HE.out]
   rfl
  ·have hkb:=ltL hc
   have hh:=qa7 HL.out HI.out hc hp
   rw[hh] at cH1
   have hkl2:(k:Int)<lim:=by have:=HI.out.2;omega
   have hmn:=qiZ HL.out hkb hkl2
   obtain⟨nn,hnn⟩:∃nn:Nat,(nn:Int)=min (bs.length:Int) lim:=⟨(min (bs.length:Int) lim).toNat,by omega⟩
   rw[←hnn] at hmn
   have hnl:nn≤bs.length:=by omega
   have hchar:=qfL HL.out (n:=nn) (p:=k) (m:=x-(k-i)) (by have:=HK.out.1;omega) HI.out hc hp (by omega) (qaL bs i (k-i))
   rw[HR.out] at hchar
   have cG:=fun V=>qcC V bs k nn ch hc hb (by omega)
   obtain⟨j,b,hbf⟩:∃j b,qkn bs nn k ch=(j,b):=⟨_,_,rfl⟩
   rw[hbf] at hchar cG
   cases b
   ·simp only[] at hchar
    obtain⟨hji,hjm,hje⟩:=hchar
    have hjl:k+j≤bs.length:=hji.1
    have cG2:∀V,Calls prog 68 #[.string ⟨bs.toArray⟩,.int .i64 k,.int .i64 nn] V fun e W'=>e=.returned (.tuple #[.int .i64 j,.bool false])∧V=W':=fun V=>(cG V).mono fun e W' h=>⟨h.1,h.2.symm⟩
    rw[if_neg (by omega)] at hje
    have heq:((k:Int)+(j:Int)==(i:Int)+n)=false:=by simp;omega
    have HE:Hid (R=.error (qaI bs l (k+j) 9)):=hje
    have cB1:=fun V=>cB V (k+j) 9
    rw[show((k+j:Nat):Int)=(k:Int)+(j:Int) by omega] at cB1
    generalize qaI bs l (k+j) 9=xx at *
    clear HR hc hp hh cH cB hje hji hnn hbf cG HK hg
    go_wp2_with (first
     |(go_at_call 113;refine ck4 (cH1 _) HX.out.next (fun _ h=>h.box) ?_;clear cH1 c0 c1 c2 c3;intro w2 HX2 c0 c1 c2 c3)
     |(go_at_call 68;refine(cG2 _).mono ?_;clear cG2;rintro e w3 ⟨rfl,rfl⟩)
     |(go_at_call 71;refine ck4 (cB1 _) HX2.out.next (fun _ h=>h.box) ?_;clear cB1 c0 c1 c2 c3;intro w4 HX4 c0 c1 c2 c3)
     |((with_reducible refine stF 10 84 rfl rfl (W.heap.size+1) (xx) ?_ ?_ ?_ ?_);exact rfl;exact rfl;exact HX4.out.flt))
    have hf:=qay HX4.out bwR (xx)
    refine qcc results176 hf (.string ⟨#[]⟩) (.int .i64 0) rfl rfl rfl rfl ⟨?_,hf.2⟩
    rw[HE.out]
    rfl
   ·simp only[] at hchar
    obtain⟨hj1,hji,hjm,hje⟩:=hchar
    have hjl:k+j≤bs.length:=hji.1
    have cG2:∀V,Calls prog 68 #[.string ⟨bs.toArray⟩,.int .i64 k,.int .i64 nn] V fun e W'=>e=.returned (.tuple #[.int .i64 j,.bool true])∧V=W':=fun V=>(cG V).mono fun e W' h=>⟨h.1,h.2.symm⟩
    have HN:Hid (qbt bs lim (x-(k+j-i)) (k+j) (qaL bs i (k+j-i)) (qaL bs i (k+j-i)).length=R):=by
     show _=_
     have hik:=HK.out.1
     have e:qaL bs i (k-i)++qaL bs k j=qaL bs i (k+j-i):=by
      have h:=qid bs i (k-i) j
      rw[show i+(k-i)=k by omega,show k-i+j=k+j-i by omega] at h
      exact h
     rw[e,show x-(k-i)-j=x-(k+j-i) by omega] at hje
     exact hje.symm
    have HNI:Hid (InR bs lim (k+j)):=hji
    clear HR hc hp hh cH cB hje hji hnn hbf cG
    go_wp2_with (first
     |(go_at_call 113;refine ck4 (cH1 _) HX.out.next (fun _ h=>h.box) ?_;clear cH1 c0 c1 c2 c3;intro w2 HX2 c0 c1 c2 c3)
     |(go_at_call 68;refine(cG2 _).mono ?_;clear cG2;rintro e w3 ⟨rfl,rfl⟩))
    go_roundg (gk-j)
    case measure=>have:=hg.out;omega
    case rel=>exact⟨k+j,by go_num,by show _≤_;have:=hg.out;omega,HX2,HNI,⟨by have:=HK.out.1;omega,by have:=HK.out.1;omega⟩,HN⟩
theorem qnT (W:World)(bs:List UInt8)(fm d l lim:Int)(i x:Nat)(hl:Lm bs l lim)(hi:InR bs lim i)(hb:bs.length≤200000000)(n:Int)(hx:bs.length<x)(hn1:(bs.length:Int)<n)(hn2:n≤9223372036854775807)(hn3:9223372036854775807<(i:Int)+n):Calls prog 176 #[.agg (inA bs fm d l),.int .i64 i,.int .i64 n,.bool true] W fun e W'=>qlZ (qbt bs lim x i [] 0) e∧Below W.heap.size W W':=by
 obtain⟨R,HR⟩:∃R,Hid (qbt bs lim x i [] 0=R):=⟨_,show _=_ from rfl⟩
 rw[HR.out]
 have hsz:=qaS bs
 have hil:=hi.1
 have HL:Hid (Lm bs l lim):=hl
 have HI:Hid (InR bs lim i):=hi
 have cH:=qdb bs fm d l
 have cB:=qdu bs fm d l
 obtain⟨wv,hwv⟩:∃wv,IntKind.i64.wrap ((i:Int)+n)=wv:=⟨_,rfl⟩
 have hneg:wv<0:=by rw[←hwv];exact qgD _ hn3 (by omega)
 have HX:=qbB W bs fm d l
 clear hl hi
 unfold inA
 go_enter func176,ntmps176
 go_wp2
 go_loopg [11] (bs.length+1-i) (fun g z wr=>∃k:Nat,z=.int .i64 k∧Hid (bs.length+1≤k+g)∧Hid (RIn W (inA bs fm d l) (W.heap.size+1) wr)∧Hid (InR bs lim k)∧Hid (i≤k∧k-i≤x)∧Hid (qbt bs lim (x-(k-i)) (k) (qaL bs i (k-i)) (qaL bs i (k-i)).length=R))
 case atStart=>exact⟨i,rfl,by show _≤_;omega,HX,HI,⟨Nat.le_refl _,by omega⟩,by show _=_;rw[Nat.sub_self,qcI,Nat.sub_zero];exact HR.out⟩
 case round =>
  clear HR HX HI
  obtain⟨k,rfl,hg,HX,HI,HK,HR⟩:=hrel
  have hkl:=HI.out.1
  obtain⟨c0,c1,c2,c3⟩:=qa3 HX.out.box
  have hkx2:k-i<x:=by omega
  have hlt:¬(k:Int)<wv:=by omega
  have hnle:¬n≤(bs.length:Int):=by omega
  have cH1:=fun V=>cH V k
  rcases qcm (bs:=bs) (lim:=lim) k with hno|⟨ch,hc,hp⟩
  ·obtain⟨h1,h2⟩:=qk0 (m:=x-(k-i)) (wh:=(qaL bs i (k-i)).length) (acc:=qaL bs i (k-i)) (by omega) HI.out HL.out hno
   have HE:Hid (R=.error (qaI bs l k 9)):=HR.out.symm.trans h1
   rw[h2] at cH1
   have cB1:=fun V=>cB V k 9
   generalize qaI bs l k 9=xx at *
   clear HR h1 h2 hno cH cB HK hg
   go_wp2_with (first
    |(go_at_call 113;refine ck4 (cH1 _) HX.out.next (fun _ h=>h.box) ?_;clear cH1 c0 c1 c2 c3;intro w2 HX2 c0 c1 c2 c3)
    |(go_at_call 71;refine ck4 (cB1 _) HX2.out.next (fun _ h=>h.box) ?_;clear cB1 c0 c1 c2 c3;intro w3 HX3 c0 c1 c2 c3)
    |((with_reducible refine stF 10 35 rfl rfl (W.heap.size+1) (xx) ?_ ?_ ?_ ?_);exact rfl;exact rfl;exact HX3.out.flt))
   have hf:=qay HX3.out bwR (xx)
   refine qcc results176 hf (.string ⟨#[]⟩) (.int .i64 0) rfl rfl rfl rfl ⟨?_,hf.2⟩
   rw[HE.out]
   rfl
  ·have hkb:=ltL hc
   have hh:=qa7 HL.out HI.out hc hp
   rw[hh] at cH1
   have hkl2:(k:Int)<lim:=by have:=HI.out.2;omega
   have hmn:=qiZ HL.out hkb hkl2
   obtain⟨nn,hnn⟩:∃nn:Nat,(nn:Int)=min (bs.length:Int) lim:=⟨(min (bs.length:Int) lim).toNat,by omega⟩
   rw[←hnn] at hmn
   have hnl:nn≤bs.length:=by omega
   have hchar:=qfL HL.out (n:=nn) (p:=k) (m:=x-(k-i)) (by have:=HK.out.1;omega) HI.out hc hp (by omega) (qaL bs i (k-i))
   rw[HR.out] at hchar
   have cG:=fun V=>qcC V bs k nn ch hc hb (by omega)
   obtain⟨j,b,hbf⟩:∃j b,qkn bs nn k ch=(j,b):=⟨_,_,rfl⟩
   rw[hbf] at hchar cG
   cases b
   ·simp only[] at hchar
    obtain⟨hji,hjm,hje⟩:=hchar
    have hjl:k+j≤bs.length:=hji.1
    have cG2:∀V,Calls prog 68 #[.string ⟨bs.toArray⟩,.int .i64 k,.int .i64 nn] V fun e W'=>e=.returned (.tuple #[.int .i64 j,.bool false])∧V=W':=fun V=>(cG V).mono fun e W' h=>⟨h.1,h.2.symm⟩
    rw[if_neg (by omega)] at hje
    have heq:((k:Int)+(j:Int)==wv)=false:=by simp;omega
    have HE:Hid (R=.error (qaI bs l (k+j) 9)):=hje
    have cB1:=fun V=>cB V (k+j) 9
    rw[show((k+j:Nat):Int)=(k:Int)+(j:Int) by omega] at cB1
    generalize qaI bs l (k+j) 9=xx at *
    clear HR hc hp hh cH cB hje hji hnn hbf cG HK hg
    go_wp2_with (first
     |(go_at_call 113;refine ck4 (cH1 _) HX.out.next (fun _ h=>h.box) ?_;clear cH1 c0 c1 c2 c3;intro w2 HX2 c0 c1 c2 c3)
     |(go_at_call 68;refine(cG2 _).mono ?_;clear cG2;rintro e w3 ⟨rfl,rfl⟩)
     |(go_at_call 71;refine ck4 (cB1 _) HX2.out.next (fun _ h=>h.box) ?_;clear cB1 c0 c1 c2 c3;intro w4 HX4 c0 c1 c2 c3)
     |((with_reducible refine stF 10 84 rfl rfl (W.heap.size+1) (xx) ?_ ?_ ?_ ?_);exact rfl;exact rfl;exact HX4.out.flt))
    have hf:=qay HX4.out bwR (xx)
    refine qcc results176 hf (.string ⟨#[]⟩) (.int .i64 0) rfl rfl rfl rfl ⟨?_,hf.2⟩
    rw[HE.out]
    rfl
   ·simp only[] at hchar
    obtain⟨hj1,hji,hjm,hje⟩:=hchar
    have hjl:k+j≤bs.length:=hji.1
    have cG2:∀V,Calls prog 68 #[.string ⟨bs.toArray⟩,.int .i64 k,.int .i64 nn] V fun e W'=>e=.returned (.tuple #[.int .i64 j,.bool true])∧V=W':=fun V=>(cG V).mono fun e W' h=>⟨h.1,h.2.symm⟩
    have HN:Hid (qbt bs lim (x-(k+j-i)) (k+j) (qaL bs i (k+j-i)) (qaL bs i (k+j-i)).length=R):=by
     show _=_
     have hik:=HK.out.1
     have e:qaL bs i (k-i)++qaL bs k j=qaL bs i (k+j-i):=by
      have h:=qid bs i (k-i) j
      rw[show i+(k-i)=k by omega,show k-i+j=k+j-i by omega] at h
      exact h
     rw[e,show x-(k-i)-j=x-(k+j-i) by omega] at hje
     exact hje.symm
    have HNI:Hid (InR bs lim (k+j)):=hji
    clear HR hc hp hh cH cB hje hji hnn hbf cG
    go_wp2_with (first
     |(go_at_call 113;refine ck4 (cH1 _) HX.out.next (fun _ h=>h.box) ?_;clear cH1 c0 c1 c2 c3;intro w2 HX2 c0 c1 c2 c3)
     |(go_at_call 68;refine(cG2 _).mono ?_;clear cG2;rintro e w3 ⟨rfl,rfl⟩))
    go_roundg (gk-j)
    case measure=>have:=hg.out;omega
    case rel=>exact⟨k+j,by go_num,by show _≤_;have:=hg.out;omega,HX2,HNI,⟨by have:=HK.out.1;omega,by have:=HK.out.1;omega⟩,HN⟩
theorem qib {α:Type}(val:α→Value)(V:World)(p:Nat)(fm:Int)(a:Option Addr)(n c:Nat)(r:Except (Int×Int) α)(c0:V.cell? ⟨p,0,none⟩=some (.int .i64 fm))(c1:V.cell? ⟨p+1,0,none⟩=some (.slice a n c))(cD:Calls prog 145 #[.int .i64 fm,.agg #[.int .i64 16,.int .i64 n],.slice a n c] V (qkd V val r)):Calls prog 144 #[.pointer (some ⟨p,0,none⟩),.pointer (some ⟨p+1,0,none⟩)] V (qkd V val r):=by
 rcases r with ⟨en,pl⟩|z
 ·go_enter func144,ntmps144
  go_wp2_with (first
   |(go_at_call 145;refine cD.mono ?_;clear cD;rintro e w2 ⟨hB,hF⟩;obtain rfl:=hF))
  exact⟨rfl,hB,rfl⟩
 ·go_enter func144,ntmps144
  go_wp2_with (first
   |(go_at_call 145;refine cD.mono ?_;clear cD;rintro e w2 ⟨hB,rfl⟩))
  go_ret
  exact⟨hB,rfl⟩
theorem qmw {fm:Int}{bs:List UInt8}{d l:Int}{n:Nat}(h:qe4 (thO fm bs d l)=.ok n):0<n:=by
 unfold qe4 thO at h
 split at h
 ·cases h
 ·next x q hq =>
  injection h with h
  subst h
  split at hq
  ·exact qfd ⟨none,bs,0,d,l,0,0⟩ _ _ _ _ _ hq
  ·split at hq
   ·exact qeT _ _ _ _ _ _ _ _ _ hq
   ·exact qeT _ _ _ _ _ _ _ _ _ hq
def qkk (fm:Int)(bs:List UInt8):Except Int (List UInt8) :=
 if qkj fm=true∧bs.length≤65536 then match qe4 (thO fm bs 16 bs.length) with
  |.error _=>.error 9
  |.ok n=>if (bs.drop n).all (fun c=>c.toNat==qbi fm)=true then .ok (bs.take n) else .error 9
 else .error 7
def qol (W:World)(r:Except Int (List UInt8))(e:Ending)(W':World):Prop :=
 Below W.heap.size W W'∧match r with
 |.ok l=>∃v,e=.returned (.tuple #[v,.int .i64 0])∧Own W' W.heap.size v l
 |.error en=>e=.returned (.tuple #[.slice none 0 0,.int .i64 en])
theorem qj4 {W:World}{g off:Nat}{bs:List UInt8}(h:qaD W (some ⟨g,off,none⟩) bs)(n:Nat):qaD W (some ⟨g,off+n,none⟩) (bs.drop n):=by
 refine⟨fun i hi => ?_,Nat.le_trans (by rw[List.length_drop];omega) h.len⟩
 rw[List.length_drop] at hi
 obtain⟨g',off',e1,e2,e3⟩:=h.at_ (n+i) (by omega)
 injection e1 with e1
 injection e1 with e1 e4
 subst e1
 subst e4
 refine⟨g,off+n,rfl,e2,?_⟩
 rw[List.getElem_drop,Nat.add_assoc]
 exact e3
theorem ql8 (W:World)(fm:Int)(ia:Option Addr)(bs:List UInt8)(cap:Nat)(h:qaD W ia bs)(hcap:bs.length≤cap)(ht:qbX W)(hne:∀en pl,qe4 (thO fm bs 16 bs.length)=.error (en,pl)→en≠0):Calls prog 94 #[.int .i64 fm,.slice ia bs.length cap] W (qol W (qkk fm bs)):=by
 have hB0:Below W.heap.size W ((W.alloc (.cells #[.int .i64 fm] 3)).alloc (.cells #[.slice ia bs.length cap] 28)):=(bwA).alloc (by simp) _
 have k0:=Boxed.new W 3 (.int .i64 fm)
 have k1:=Boxed.new (W.alloc (.cells #[.int .i64 fm] 3)) 28 (.slice ia bs.length cap)
 rw[World.size_alloc] at k1
 have K0:Hid (Boxed ((W.alloc (.cells #[.int .i64 fm] 3)).alloc (.cells #[.slice ia bs.length cap] 28)) W.heap.size 3 (.int .i64 fm)):=k0.alloc _
 have K1:Hid (Boxed ((W.alloc (.cells #[.int .i64 fm] 3)).alloc (.cells #[.slice ia bs.length cap] 28)) (W.heap.size+1) 28 (.slice ia bs.length cap)):=k1
 have HBy:Hid (qaD ((W.alloc (.cells #[.int .i64 fm] 3)).alloc (.cells #[.slice ia bs.length cap] 28)) ia bs):=h.below hB0
 have HT:Hid (qbX ((W.alloc (.cells #[.int .i64 fm] 3)).alloc (.cells #[.slice ia bs.length cap] 28))):=ht.below hB0
 have HB0:Hid (Below W.heap.size W ((W.alloc (.cells #[.int .i64 fm] 3)).alloc (.cells #[.slice ia bs.length cap] 28))):=hB0
 have cF:=fun V=>qfY fm V
 have hmf:∀(fn:Fn) (first cap:Array Value) (w:World),(Instr.makeFunc fn first cap).run prog w=.ok (.func fn first cap) w:=fun _ _ _ _=>rfl
 clear k0 k1 hB0 h ht
 have c0:=K0.out.cell
 have c1:=K1.out.cell
 cases hf:qkj fm
 ·have e:qkk fm bs=.error 7:=by unfold qkk;rw[if_neg (by rw[hf];simp)]
  rw[e]
  rw[hf] at cF
  clear e hf
  go_enter func94,ntmps94
  go_wp2_with (first
   |(go_at_call 63;refine(cF _).mono ?_;clear cF;rintro e w2 ⟨rfl,rfl⟩))
  go_ret2
  exact⟨HB0.out,rfl⟩
 ·by_cases hl:bs.length≤65536
  ·have hfm:fm=1∨fm=2∨fm=3:=by
    unfold qkj at hf
    simp at hf
    omega
   have hl2:¬(65536:Int)<bs.length:=by omega
   have b2:Below ((W.alloc (.cells #[.int .i64 fm] 3)).alloc (.cells #[.slice ia bs.length cap] 28)).heap.size ((W.alloc (.cells #[.int .i64 fm] 3)).alloc (.cells #[.slice ia bs.length cap] 28)) ((((W.alloc (.cells #[.int .i64 fm] 3)).alloc (.cells #[.slice ia bs.length cap] 28)).alloc (.cells #[.int .i64 0] 31)).alloc (.cells #[.int .i64 0] 3)):=(bwA).alloc (by simp) _
   have cD:=qkx _ fm ia bs cap 16 bs.length hfm (HBy.out.below b2) (HT.out.below b2) (by decide) (by decide) (by omega)
   have hle:∀n,qe4 (thO fm bs 16 bs.length)=.ok n→n≤bs.length:=qjF cD fun e w hh=>hh.2
   have cI:=qi1 (fun n:Nat=>.int .i64 n) ((W.alloc (.cells #[.int .i64 fm] 3)).alloc (.cells #[.slice ia bs.length cap] 28)) 144 #[.pointer (some ⟨W.heap.size,0,none⟩),.pointer (some ⟨W.heap.size+1,0,none⟩)] (qe4 (thO fm bs 16 bs.length)) rfl
    (qib _ _ W.heap.size fm ia bs.length cap _ ((K0.out.alloc _).alloc _).cell ((K1.out.alloc _).alloc _).cell (cD.mono fun e w hh=>hh.1))
   have hu:qkk fm bs=(match qe4 (thO fm bs 16 bs.length) with|.error _=>.error 9|.ok n=>if (bs.drop n).all (fun c=>c.toNat==qbi fm)=true then .ok (bs.take n) else .error 9):=by
    unfold qkk
    rw[if_pos ⟨hf,hl⟩]
   rw[hu]
   rw[hf] at cF
   clear cD b2 hu hf hl HT
   cases hr:qe4 (thO fm bs 16 bs.length) with
   |error er =>
    obtain⟨en,pl⟩:=er
    have hen:=hne en pl hr
    have hq:(en==0)=false:=by simpa using hen
    have hq2:(en != 0)=true:=by simpa using hen
    rw[hr] at cI
    unfold qnP at cI
    simp only[]
    clear hr hne hle hen
    go_enter func94,ntmps94
    go_wp2_with (first
     |(go_at_call 63;refine(cF _).mono ?_;clear cF;rintro e w2 ⟨rfl,rfl⟩)
     |(go_at_call 143;refine cI.mono ?_;clear cI;rintro e w3 ⟨rfl,hB3⟩))
    have d0:w3.cell? ⟨W.heap.size,0,none⟩=some (.int .i64 fm):=(hB3.cell (p:=⟨W.heap.size,0,none⟩) K0.out.lt).trans c0
    have d1:w3.cell? ⟨W.heap.size+1,0,none⟩=some (.slice ia bs.length cap):=(hB3.cell (p:=⟨W.heap.size+1,0,none⟩) K1.out.lt).trans c1
    clear c0 c1
    go_region
    go_wp2
    go_ret2
    exact⟨(HB0.out.trans (hB3.mono HB0.out.size)).trans (Below.refl _ _).drew,rfl⟩
   |ok n =>
    have hn:=hle n hr
    rw[hr] at cI
    unfold qnP at cI
    simp only[]
    have hn0:0<n:=qmw hr
    obtain⟨g,off,hia⟩:∃g off,ia=some ⟨g,off,none⟩:=by
     obtain⟨g,off,e1,_⟩:=HBy.out.at_ 0 (by omega)
     exact⟨g,off,e1⟩
    subst hia
    obtain⟨ia2,HIF⟩:∃ia2,Hid ((if cap=n then some (⟨g,off,none⟩:Addr) else some ⟨g,off+n,none⟩)=ia2):=⟨_,show _=_ from rfl⟩
    have cX:∀V,qaD V (some ⟨g,off,none⟩) bs→Calls prog 146 #[.int .i64 fm,.slice ia2 (bs.length-n) (cap-n)] V fun e V'=>e=.returned (.bool ((bs.drop n).all (fun c=>c.toNat==qbi fm)))∧V'=V:=fun V hV=>by
     have hb2:qaD V ia2 (bs.drop n):=by
      rw[←HIF.out]
      by_cases hcn:cap=n
      ·rw[if_pos hcn]
       have hd:bs.drop n=[]:=List.drop_of_length_le (by omega)
       rw[hd]
       exact⟨fun i hi=>by simp at hi,by unfold maxLen;simp⟩
      ·rw[if_neg hcn]
       exact qj4 hV n
     have:=qjS V fm _ _ (cap-n) hb2
     rwa [List.length_drop] at this
    clear hr hne hle
    cases hfi:(bs.drop n).all (fun c=>c.toNat==qbi fm)
    ·rw[if_neg (by simp)]
     rw[hfi] at cX
     clear hfi
     go_enter func94,ntmps94
     go_wp2_with (first
      |(go_at_call 63;refine(cF _).mono ?_;clear cF;rintro e w2 ⟨rfl,rfl⟩)
      |(go_at_call 143;refine cI.mono ?_;clear cI;rintro e w3 ⟨rfl,hB3⟩))
     have d0:w3.cell? ⟨W.heap.size,0,none⟩=some (.int .i64 fm):=(hB3.cell (p:=⟨W.heap.size,0,none⟩) K0.out.lt).trans c0
     have d1:w3.cell? ⟨W.heap.size+1,0,none⟩=some (.slice (some ⟨g,off,none⟩) bs.length cap):=(hB3.cell (p:=⟨W.heap.size+1,0,none⟩) K1.out.lt).trans c1
     have HB3:Hid (Below W.heap.size W w3):=HB0.out.trans (hB3.mono HB0.out.size)
     have cX3:=cX (World.drew w3) ((HBy.out.below hB3).below (Below.refl _ _).drew)
     clear c0 c1 hB3 HB0 HBy K0 K1 cX
     refine wp_region_any (by kernel_rfl) ?_
     change wpAny _ _ _ _ _ _ _ (World.drew w3)
     have d0':(World.drew w3).cell? ⟨W.heap.size,0,none⟩=some (.int .i64 fm):=d0
     have d1':(World.drew w3).cell? ⟨W.heap.size+1,0,none⟩=some (.slice (some ⟨g,off,none⟩) bs.length cap):=d1
     refine qf5 (β:=Unit) #[true,true,true,true,true,true,true,false,false,false] 3 (fun _=>[(23,.int .i64 0),(24,.bool false),(25,.bool false),(26,.int .i64 fm),(27,.slice (some ⟨g,off,none⟩) bs.length cap),(28,.int .i64 n),(29,.slice ia2 (bs.length-n) (cap-n))]) (fun _=>True) (fun _=>World.drew w3) (fun hvia => ?reg) ?tail
     case reg =>
      refine rd1 0 rfl (by kernel_rfl) (fun K hK => ?_)
      go_simp
      refine hK _ _ ?_
      clear hK
      refine rd1 1 rfl (by kernel_rfl) (fun K hK => ?_)
      go_simp
      refine hK _ _ ?_
      clear hK
      refine rd1 2 rfl (by kernel_rfl) (fun K hK => ?_)
      go_simp
      refine hK _ _ ?_
      clear hK
      refine wpAny_ready (rs:=[3,4,5]) (by kernel_rfl) (by simp) ?_
      refine AllReady.cons rfl (fun K hK => ?_) (AllReady.cons rfl (fun K hK => ?_) (AllReady.cons rfl (fun K hK => ?_) AllReady.nil))
      ·go_simp
       refine hK _ _ ?_
       clear hK
       refine rd2 4 5 rfl rfl (by kernel_rfl) (fun K hK => ?_) (fun K hK => ?_)
       ·go_simp
        refine hK _ _ ?_
        clear hK
        refine rd1 5 rfl (by kernel_rfl) (fun K hK => ?_)
        go_simp
        refine hK _ _ ?_
        clear hK
        refine rd1 6 rfl (by kernel_rfl) (fun K hK => ?_)
        go_simp
        rw[HIF.out]
        refine hK _ _ ?_
        clear hK
        exact cast (by kernel_rfl) (hvia () trivial)
       ·go_simp
        refine hK _ _ ?_
        clear hK
        refine rd1 4 rfl (by kernel_rfl) (fun K hK => ?_)
        go_simp
        refine hK _ _ ?_
        clear hK
        refine rd1 6 rfl (by kernel_rfl) (fun K hK => ?_)
        go_simp
        rw[HIF.out]
        refine hK _ _ ?_
        clear hK
        exact cast (by kernel_rfl) (hvia () trivial)
      ·go_simp
       refine hK _ _ ?_
       clear hK
       refine rd2 3 5 rfl rfl (by kernel_rfl) (fun K hK => ?_) (fun K hK => ?_)
       ·go_simp
        refine hK _ _ ?_
        clear hK
        refine rd1 5 rfl (by kernel_rfl) (fun K hK => ?_)
        go_simp
        refine hK _ _ ?_
        clear hK
        refine rd1 6 rfl (by kernel_rfl) (fun K hK => ?_)
        go_simp
        rw[HIF.out]
        refine hK _ _ ?_
        clear hK
        exact cast (by kernel_rfl) (hvia () trivial)
       ·go_simp
        refine hK _ _ ?_
        clear hK
        refine rd2 3 6 rfl rfl (by kernel_rfl) (fun K hK => ?_) (fun K hK => ?_)
        ·go_simp
         refine hK _ _ ?_
         clear hK
         refine rd1 6 rfl (by kernel_rfl) (fun K hK => ?_)
         go_simp
         rw[HIF.out]
         refine hK _ _ ?_
         clear hK
         exact cast (by kernel_rfl) (hvia () trivial)
        ·go_simp
         rw[HIF.out]
         refine hK _ _ ?_
         clear hK
         refine rd1 3 rfl (by kernel_rfl) (fun K hK => ?_)
         go_simp
         refine hK _ _ ?_
         clear hK
         exact cast (by kernel_rfl) (hvia () trivial)
      ·go_simp
       refine hK _ _ ?_
       clear hK
       refine rd2 3 4 rfl rfl (by kernel_rfl) (fun K hK => ?_) (fun K hK => ?_)
       ·go_simp
        refine hK _ _ ?_
        clear hK
        refine rd1 4 rfl (by kernel_rfl) (fun K hK => ?_)
        go_simp
        refine hK _ _ ?_
        clear hK
        refine rd1 6 rfl (by kernel_rfl) (fun K hK => ?_)
        go_simp
        rw[HIF.out]
        refine hK _ _ ?_
        clear hK
        exact cast (by kernel_rfl) (hvia () trivial)
       ·go_simp
        refine hK _ _ ?_
        clear hK
        refine rd2 3 6 rfl rfl (by kernel_rfl) (fun K hK => ?_) (fun K hK => ?_)
        ·go_simp
         refine hK _ _ ?_
         clear hK
         refine rd1 6 rfl (by kernel_rfl) (fun K hK => ?_)
         go_simp
         rw[HIF.out]
         refine hK _ _ ?_
         clear hK
         exact cast (by kernel_rfl) (hvia () trivial)
        ·go_simp
         rw[HIF.out]
         refine hK _ _ ?_
         clear hK
         refine rd1 3 rfl (by kernel_rfl) (fun K hK => ?_)
         go_simp
         refine hK _ _ ?_
         clear hK
         exact cast (by kernel_rfl) (hvia () trivial)
     case tail =>
      intro _ _
      simp only[List.foldl]
      refine rd1 7 rfl (by kernel_rfl) (fun K hK => ?_)
      go_simp
      refine cX3.mono ?_
      clear cX3
      rintro e w5 ⟨rfl,rfl⟩
      simp only[]
      refine hK _ _ ?_
      clear hK
      refine rd1 8 rfl (by kernel_rfl) (fun K hK => ?_)
      go_simp
      refine hK _ _ ?_
      clear hK
      refine rd1 9 rfl (by kernel_rfl) (fun K hK => ?_)
      go_simp
      refine hK _ _ ?_
      clear hK
      refine wpAny_done (by kernel_rfl) ?_ _
      go_wp2
      go_ret2
      exact⟨HB3.out.trans (Below.refl _ _).drew,rfl⟩
    ·rw[if_pos rfl]
     rw[hfi] at cX
     have HCL:Hid (∀V,qaD V (some ⟨g,off,none⟩) bs→Calls prog 147 #[.slice (some ⟨g,off,none⟩) n cap] V fun e V'=>∃v',e=.returned v'∧Own V' V.heap.size v' (bs.take n)∧Below V.heap.size V V'):=fun V hV=>by
      have hc:∀i,i<n→V.cell? ((⟨g,off,none⟩:Addr).add i)=some (.int .u8 (((bs.take n).map (fun c=>(c.toNat:Int))).getD i 0)):=fun i hi=>by
       obtain⟨g',off',e1,_,e3⟩:=hV.at_ i (by omega)
       injection e1 with e1
       injection e1 with e1 e4
       subst e1
       subst e4
       have e5:(⟨g,off,none⟩:Addr).add i=⟨g,off+i,none⟩:=by by_cases h:i=0<;>simp[Addr.add,h]
       rw[e5,e3]
       simp[List.getD_eq_getElem?_getD,List.getElem?_map,hi,List.getElem?_eq_getElem (show i<bs.length by omega)]
      refine(Tryz.bytes_Clone_at ⟨g,off,none⟩ n cap ((bs.take n).map (fun c=>(c.toNat:Int))) V (by simp;omega) (by omega) hc).mono ?_
      rintro e V' ⟨v',rfl,ho,_,hB⟩
      refine⟨v',rfl,⟨?_,hB.size,?_⟩,hB⟩
      ·have e6:((bs.take n).map (fun c=>(c.toNat:Int))).map (Value.int .u8)=(bs.take n).map qaX:=by rw[List.map_map];rfl
       have e7:(bs.take n).length=n:=by rw[List.length_take];omega
       rw[e6] at ho
       rw[e7]
       exact ho
      ·rcases ho.2 with ⟨h0,_⟩|⟨g',cp,cur,h0,_⟩
       ·exact⟨_,_,_,h0⟩
       ·exact⟨_,_,_,h0⟩
     clear hfi
     go_enter func94,ntmps94
     go_wp2_with (first
      |(go_at_call 63;refine(cF _).mono ?_;clear cF;rintro e w2 ⟨rfl,rfl⟩)
      |(go_at_call 143;refine cI.mono ?_;clear cI;rintro e w3 ⟨rfl,hB3⟩))
     have d0:w3.cell? ⟨W.heap.size,0,none⟩=some (.int .i64 fm):=(hB3.cell (p:=⟨W.heap.size,0,none⟩) K0.out.lt).trans c0
     have d1:w3.cell? ⟨W.heap.size+1,0,none⟩=some (.slice (some ⟨g,off,none⟩) bs.length cap):=(hB3.cell (p:=⟨W.heap.size+1,0,none⟩) K1.out.lt).trans c1
     have HB3:Hid (Below W.heap.size W w3):=HB0.out.trans (hB3.mono HB0.out.size)
     have cX3:=cX (World.drew w3) ((HBy.out.below hB3).below (Below.refl _ _).drew)
     have cC:=HCL.out (World.drew w3) ((HBy.out.below hB3).below (Below.refl _ _).drew)
     clear c0 c1 hB3 HB0 HBy K0 K1 cX HCL
     refine wp_region_any (by kernel_rfl) ?_
     change wpAny _ _ _ _ _ _ _ (World.drew w3)
     have d0':(World.drew w3).cell? ⟨W.heap.size,0,none⟩=some (.int .i64 fm):=d0
     have d1':(World.drew w3).cell? ⟨W.heap.size+1,0,none⟩=some (.slice (some ⟨g,off,none⟩) bs.length cap):=d1
     refine qf5 (β:=Unit) #[true,true,true,true,true,true,true,false,false,false] 3 (fun _=>[(23,.int .i64 0),(24,.bool false),(25,.bool false),(26,.int .i64 fm),(27,.slice (some ⟨g,off,none⟩) bs.length cap),(28,.int .i64 n),(29,.slice ia2 (bs.length-n) (cap-n))]) (fun _=>True) (fun _=>World.drew w3) (fun hvia => ?reg) ?tail
     case reg =>
      refine rd1 0 rfl (by kernel_rfl) (fun K hK => ?_)
      go_simp
      refine hK _ _ ?_
      clear hK
      refine rd1 1 rfl (by kernel_rfl) (fun K hK => ?_)
      go_simp
      refine hK _ _ ?_
      clear hK
      refine rd1 2 rfl (by kernel_rfl) (fun K hK => ?_)
      go_simp
      refine hK _ _ ?_
      clear hK
      refine wpAny_ready (rs:=[3,4,5]) (by kernel_rfl) (by simp) ?_
      refine AllReady.cons rfl (fun K hK => ?_) (AllReady.cons rfl (fun K hK => ?_) (AllReady.cons rfl (fun K hK => ?_) AllReady.nil))
      ·go_simp
       refine hK _ _ ?_
       clear hK
       refine rd2 4 5 rfl rfl (by kernel_rfl) (fun K hK => ?_) (fun K hK => ?_)
       ·go_simp
        refine hK _ _ ?_
        clear hK
        refine rd1 5 rfl (by kernel_rfl) (fun K hK => ?_)
        go_simp
        refine hK _ _ ?_
        clear hK
        refine rd1 6 rfl (by kernel_rfl) (fun K hK => ?_)
        go_simp
        rw[HIF.out]
        refine hK _ _ ?_
        clear hK
        exact cast (by kernel_rfl) (hvia () trivial)
       ·go_simp
        refine hK _ _ ?_
        clear hK
        refine rd1 4 rfl (by kernel_rfl) (fun K hK => ?_)
        go_simp
        refine hK _ _ ?_
        clear hK
        refine rd1 6 rfl (by kernel_rfl) (fun K hK => ?_)
        go_simp
        rw[HIF.out]
        refine hK _ _ ?_
        clear hK
        exact cast (by kernel_rfl) (hvia () trivial)
      ·go_simp
       refine hK _ _ ?_
       clear hK
       refine rd2 3 5 rfl rfl (by kernel_rfl) (fun K hK => ?_) (fun K hK => ?_)
       ·go_simp
        refine hK _ _ ?_
        clear hK
        refine rd1 5 rfl (by kernel_rfl) (fun K hK => ?_)
        go_simp
        refine hK _ _ ?_
        clear hK
        refine rd1 6 rfl (by kernel_rfl) (fun K hK => ?_)
        go_simp
        rw[HIF.out]
        refine hK _ _ ?_
        clear hK
        exact cast (by kernel_rfl) (hvia () trivial)
       ·go_simp
        refine hK _ _ ?_
        clear hK
        refine rd2 3 6 rfl rfl (by kernel_rfl) (fun K hK => ?_) (fun K hK => ?_)
        ·go_simp
         refine hK _ _ ?_
         clear hK
         refine rd1 6 rfl (by kernel_rfl) (fun K hK => ?_)
         go_simp
         rw[HIF.out]
         refine hK _ _ ?_
         clear hK
         exact cast (by kernel_rfl) (hvia () trivial)
        ·go_simp
         rw[HIF.out]
         refine hK _ _ ?_
         clear hK
         refine rd1 3 rfl (by kernel_rfl) (fun K hK => ?_)
         go_simp
         refine hK _ _ ?_
         clear hK
         exact cast (by kernel_rfl) (hvia () trivial)
      ·go_simp
       refine hK _ _ ?_
       clear hK
       refine rd2 3 4 rfl rfl (by kernel_rfl) (fun K hK => ?_) (fun K hK => ?_)
       ·go_simp
        refine hK _ _ ?_
        clear hK
        refine rd1 4 rfl (by kernel_rfl) (fun K hK => ?_)
        go_simp
        refine hK _ _ ?_
        clear hK
        refine rd1 6 rfl (by kernel_rfl) (fun K hK => ?_)
        go_simp
        rw[HIF.out]
        refine hK _ _ ?_
        clear hK
        exact cast (by kernel_rfl) (hvia () trivial)
       ·go_simp
        refine hK _ _ ?_
        clear hK
        refine rd2 3 6 rfl rfl (by kernel_rfl) (fun K hK => ?_) (fun K hK => ?_)
        ·go_simp
         refine hK _ _ ?_
         clear hK
         refine rd1 6 rfl (by kernel_rfl) (fun K hK => ?_)
         go_simp
         rw[HIF.out]
         refine hK _ _ ?_
         clear hK
         exact cast (by kernel_rfl) (hvia () trivial)
        ·go_simp
         rw[HIF.out]
         refine hK _ _ ?_
         clear hK
         refine rd1 3 rfl (by kernel_rfl) (fun K hK => ?_)
         go_simp
         refine hK _ _ ?_
         clear hK
         exact cast (by kernel_rfl) (hvia () trivial)
     case tail =>
      intro _ _
      simp only[List.foldl]
      refine rd1 7 rfl (by kernel_rfl) (fun K hK => ?_)
      go_simp
      refine cX3.mono ?_
      clear cX3
      rintro e w5 ⟨rfl,rfl⟩
      simp only[]
      refine hK _ _ ?_
      clear hK
      refine rd1 8 rfl (by kernel_rfl) (fun K hK => ?_)
      go_simp
      refine hK _ _ ?_
      clear hK
      refine rd1 9 rfl (by kernel_rfl) (fun K hK => ?_)
      go_simp
      refine hK _ _ ?_
      clear hK
      refine wpAny_done (by kernel_rfl) ?_ _
      go_wp2_with (first
       |(go_at_call 147;refine cC.mono ?_;clear cC;rintro e w6 ⟨v6,rfl,hO6,hB6⟩;obtain⟨o6,s6,a6,n6,c6,rfl⟩:=hO6))
      go_ret2
      exact⟨(HB3.out.trans (Below.refl _ _).drew).trans (hB6.mono HB3.out.size),_,rfl,Own.mono ⟨o6,s6,_,_,_,rfl⟩ HB3.out.size⟩
  ·have e:qkk fm bs=.error 7:=by unfold qkk;rw[if_neg (fun hh=>hl hh.2)]
   have hl2:(65536:Int)<bs.length:=by omega
   rw[e]
   rw[hf] at cF
   clear e hf hl
   go_enter func94,ntmps94
   go_wp2_with (first
    |(go_at_call 63;refine(cF _).mono ?_;clear cF;rintro e w2 ⟨rfl,rfl⟩))
   go_ret2
   exact⟨HB0.out,rfl⟩
end
end Go.Proofs.YtllcbnfmihfaaaaGreatDoor
