import Derived.Test.YtllcbnfmihfaaaaGreatDoorUq30
set_option maxRecDepth 100000
set_option maxHeartbeats 8000000
namespace Go.Proofs.YtllcbnfmihfaaaaGreatDoor
open Go.Proofs.Tryz
section
open Go.RowKit Go.Lib
theorem qid (bs:List UInt8)(p a j:Nat):qaL bs p a++qaL bs (p+a) j=qaL bs p (a+j):=by
 unfold qaL
 rw[List.take_add,List.drop_drop]
theorem qcI (bs:List UInt8)(p:Nat):qaL bs p 0=[]:=by simp[qaL]
theorem qfh {bs:List UInt8}{lim:Int}{m k:Nat}{c:UInt8}{acc:List UInt8}(hm:0<m)(hc:bs[k]? = some c)(hp:¬(k:Int)=lim):qch bs lim m k acc=qch bs lim (m-1) (k+1) (acc++[c]):=by
 obtain⟨g,rfl⟩:∃g,m=g+1:=⟨m-1,by omega⟩
 conv=>lhs;rw[qch,hc]
 simp only[]
 rw[if_neg hp]
 rfl
theorem qkA {bs:List UInt8}{l lim:Int}{m k:Nat}{acc:List UInt8}(hm:0<m)(hi:InR bs lim k)(hl:Lm bs l lim)(hc:bs[k]? = none∨∃c,bs[k]? = some c∧(k:Int)=lim):qch bs lim m k acc=.error (qaI bs l k 9)∧qaz bs l k=false:=by
 obtain⟨g,rfl⟩:∃g,m=g+1:=⟨m-1,by omega⟩
 rw[qch]
 rcases hc with hc|⟨c,hc,hp⟩
 ·rw[hc,qaH hi.1 hc]
  exact⟨rfl,qa9 hc⟩
 ·rw[hc,qaU hl hc hp]
  simp only[]
  rw[if_pos hp]
  exact⟨rfl,qaJ hl hc hp⟩
theorem qk0 {bs:List UInt8}{l lim:Int}{m k wh:Nat}{acc:List UInt8}(hm:0<m)(hi:InR bs lim k)(hl:Lm bs l lim)(hc:bs[k]? = none∨∃c,bs[k]? = some c∧(k:Int)=lim):qbt bs lim m k acc wh=.error (qaI bs l k 9)∧qaz bs l k=false:=by
 obtain⟨g,rfl⟩:∃g,m=g+1:=⟨m-1,by omega⟩
 rw[qbt]
 rcases hc with hc|⟨c,hc,hp⟩
 ·rw[hc,qaH hi.1 hc]
  exact⟨rfl,qa9 hc⟩
 ·rw[hc,qaU hl hc hp]
  simp only[]
  rw[if_pos hp]
  exact⟨rfl,qaJ hl hc hp⟩
theorem qcm {bs:List UInt8}{lim:Int}(k:Nat):(bs[k]? = none∨∃c,bs[k]? = some c∧(k:Int)=lim)∨∃c,bs[k]? = some c∧¬(k:Int)=lim:=by
 cases hc:bs[k]? with
 |none=>exact .inl (.inl rfl)
 |some c =>
  by_cases hp:(k:Int)=lim
  ·exact .inl (.inr ⟨c,rfl,hp⟩)
  ·exact .inr ⟨c,rfl,hp⟩
theorem qgD (a:Int)(h:9223372036854775807<a)(h2:a≤10000000000000000000):IntKind.i64.wrap a<0:=by
 rw[IntKind.wrap_i64]
 omega
theorem qnY (W:World)(bs:List UInt8)(fm d l lim:Int)(i x:Nat)(hl:Lm bs l lim)(hi:InR bs lim i)(hb:bs.length≤200000000)(hx:x≤bs.length):Calls prog 176 #[.agg (inA bs fm d l),.int .i64 i,.int .i64 (x:Int),.bool false] W fun e W'=>qlZ (qch bs lim x i []) e∧Below W.heap.size W W':=by
 obtain⟨R,HR⟩:∃R,Hid (qch bs lim x i []=R):=⟨_,show _=_ from rfl⟩
 rw[HR.out]
 have hsz:=qaS bs
 have hil:=hi.1
 have HL:Hid (Lm bs l lim):=hl
 have HI:Hid (InR bs lim i):=hi
 have cH:=qdb bs fm d l
 have cB:=qdu bs fm d l
 have HX:=qbB W bs fm d l
 clear hl hi
 unfold inA
 go_enter func176,ntmps176
 go_wp2
 go_loopg [11] (bs.length+1-i) (fun g z wr=>∃k:Nat,z=.int .i64 k∧Hid (bs.length+1≤k+g)∧Hid (RIn W (inA bs fm d l) (W.heap.size+1) wr)∧Hid (InR bs lim k)∧Hid (i≤k∧k-i≤x)∧Hid (qch bs lim (x-(k-i)) (k) (qaL bs i (k-i))=R))
 case atStart=>exact⟨i,rfl,by show _≤_;omega,HX,HI,⟨Nat.le_refl _,by omega⟩,by show _=_;rw[Nat.sub_self,qcI,Nat.sub_zero];exact HR.out⟩
 case round =>
  clear HR HX HI
  obtain⟨k,rfl,hg,HX,HI,HK,HR⟩:=hrel
  have hkl:=HI.out.1
  obtain⟨c0,c1,c2,c3⟩:=qa3 HX.out.box
  by_cases hkx:k-i=x
  ·have HE:Hid (R=.ok (qaL bs i x,k)):=by
    show _=_
    have h:=HR.out
    rw[hkx,Nat.sub_self] at h
    rw[←h]
    rfl
   have hik:=HK.out.1
   have hlt:¬(k:Int)<(i:Int)+(x:Int):=by omega
   have hng:¬(bs.length:Int)<(x:Int):=by omega
   have HEX:Hid ((⟨bs.toArray⟩:ByteArray).extract (i:Int).toNat (k:Int).toNat=⟨(qaL bs i x).toArray⟩):=by
    show _=_
    rw[show(i:Int).toNat=i by omega,show(k:Int).toNat=i+x by omega]
    exact qf2 bs i x
   have hik2:(i:Int)≤(k:Int):=by omega
   have hkl2:(k:Int)≤(bs.length:Int):=by omega
   clear HR cH cB HK hg
   go_wp2_with (first
    |((with_reducible refine stF 10 95 rfl rfl (W.heap.size+1) (0,0) ?_ ?_ ?_ ?_);exact rfl;exact rfl;exact HX.out.flt))
   have hf:=qay HX.out bwR (0,0)
   refine qcc results176 hf (.string ((⟨bs.toArray⟩:ByteArray).extract (i:Int).toNat (k:Int).toNat)) (.int .i64 k) rfl rfl rfl rfl ⟨?_,hf.2⟩
   rw[HE.out,HEX.out]
   rfl
  ·have hkx2:k-i<x:=by have:=HK.out.2;omega
   have hlt:(k:Int)<(i:Int)+(x:Int):=by omega
   have hle:(x:Int)≤(bs.length:Int):=by omega
   have cH1:=fun V=>cH V k
   rcases qcm (bs:=bs) (lim:=lim) k with hno|⟨ch,hc,hp⟩
   ·obtain⟨h1,h2⟩:=qkA (m:=x-(k-i)) (acc:=qaL bs i (k-i)) (by omega) HI.out HL.out hno
    have HE:Hid (R=.error (qaI bs l k 9)):=HR.out.symm.trans h1
    rw[h2] at cH1
    have cB1:=fun V=>cB V k 9
    generalize qaI bs l k 9=xx at *
    clear HR h1 h2 hno cH cB HK hg
    go_wp2_with (first
     |(go_at_call 113;refine ck4 (cH1 _) HX.out.next (fun _ h=>h.box) ?_;clear cH1 c0 c1 c2 c3;intro w2 HX2 c0 c1 c2 c3)
     |(go_at_call 71;refine ck4 (cB1 _) HX2.out.next (fun _ h=>h.box) ?_;clear cB1 c0 c1 c2 c3;intro w3 HX3 c0 c1 c2 c3)
     |((with_reducible refine stF 10 35 rfl rfl (W.heap.size+1) (xx) ?_ ?_ ?_ ?_);exact rfl;exact rfl;exact HX3.out.flt))
    have hf:=qay HX3.out bwR (xx)
    refine qcc results176 hf (.string ⟨#[]⟩) (.int .i64 0) rfl rfl rfl rfl ⟨?_,hf.2⟩
    rw[HE.out]
    rfl
   ·have hkb:=ltL hc
    have hh:=qa7 HL.out HI.out hc hp
    rw[hh] at cH1
    have HN:Hid (qch bs lim (x-(k+1-i)) (k+1) (qaL bs i (k+1-i))=R):=by
     show _=_
     have hik:=HK.out.1
     rw[show k+1-i=(k-i)+1 by omega,qcJ (p:=i) (k:=k-i) (c:=ch) (by rw[show i+(k-i)=k by omega];exact hc),show x-((k-i)+1)=x-(k-i)-1 by omega,←qfh (by omega) hc hp]
     exact HR.out
    have HNI:=show Hid (InR bs lim (k+1)) from qav HI.out hc hp
    clear HR hc hp hh cH cB
    go_wp2_with (first
     |(go_at_call 113;refine ck4 (cH1 _) HX.out.next (fun _ h=>h.box) ?_;clear cH1 c0 c1 c2 c3;intro w2 HX2 c0 c1 c2 c3))
    go_roundg (gk-1)
    case measure=>have:=hg.out;omega
    case rel=>exact⟨k+1,by go_num,by show _≤_;have:=hg.out;omega,HX2,HNI,⟨by have:=HK.out.1;omega,by have:=HK.out.1;omega⟩,HN⟩
theorem qof (W:World)(bs:List UInt8)(fm d l lim:Int)(i x:Nat)(hl:Lm bs l lim)(hi:InR bs lim i)(_hb:bs.length≤200000000)(n:Int)(hx:bs.length<x)(hn1:(bs.length:Int)<n)(hn2:(i:Int)+n≤9223372036854775807):Calls prog 176 #[.agg (inA bs fm d l),.int .i64 i,.int .i64 n,.bool false] W fun e W'=>qlZ (qch bs lim x i []) e∧Below W.heap.size W W':=by
 obtain⟨R,HR⟩:∃R,Hid (qch bs lim x i []=R):=⟨_,show _=_ from rfl⟩
 rw[HR.out]
 have hsz:=qaS bs
 have hil:=hi.1
 have HL:Hid (Lm bs l lim):=hl
 have HI:Hid (InR bs lim i):=hi
 have cH:=qdb bs fm d l
 have cB:=qdu bs fm d l
 have HX:=qbB W bs fm d l
 clear hl hi
 unfold inA
 go_enter func176,ntmps176
 go_wp2
 go_loopg [11] (bs.length+1-i) (fun g z wr=>∃k:Nat,z=.int .i64 k∧Hid (bs.length+1≤k+g)∧Hid (RIn W (inA bs fm d l) (W.heap.size+1) wr)∧Hid (InR bs lim k)∧Hid (i≤k∧k-i≤x)∧Hid (qch bs lim (x-(k-i)) (k) (qaL bs i (k-i))=R))
 case atStart=>exact⟨i,rfl,by show _≤_;omega,HX,HI,⟨Nat.le_refl _,by omega⟩,by show _=_;rw[Nat.sub_self,qcI,Nat.sub_zero];exact HR.out⟩
 case round =>
  clear HR HX HI
  obtain⟨k,rfl,hg,HX,HI,HK,HR⟩:=hrel
  have hkl:=HI.out.1
  obtain⟨c0,c1,c2,c3⟩:=qa3 HX.out.box
  have hkx2:k-i<x:=by omega
  have hlt:(k:Int)<(i:Int)+n:=by omega
  have hni : -9223372036854775808≤(i:Int)+n:=by omega
  have hnle:¬n≤(bs.length:Int):=by omega
  have cH1:=fun V=>cH V k
  rcases qcm (bs:=bs) (lim:=lim) k with hno|⟨ch,hc,hp⟩
  ·obtain⟨h1,h2⟩:=qkA (m:=x-(k-i)) (acc:=qaL bs i (k-i)) (by omega) HI.out HL.out hno
   have HE:Hid (R=.error (qaI bs l k 9)):=HR.out.symm.trans h1
   rw[h2] at cH1
   have cB1:=fun V=>cB V k 9
   generalize qaI bs l k 9=xx at *
   clear HR h1 h2 hno cH cB HK hg
   go_wp2_with (first
    |(go_at_call 113;refine ck4 (cH1 _) HX.out.next (fun _ h=>h.box) ?_;clear cH1 c0 c1 c2 c3;intro w2 HX2 c0 c1 c2 c3)
    |(go_at_call 71;refine ck4 (cB1 _) HX2.out.next (fun _ h=>h.box) ?_;clear cB1 c0 c1 c2 c3;intro w3 HX3 c0 c1 c2 c3)
    |((with_reducible refine stF 10 35 rfl rfl (W.heap.size+1) (xx) ?_ ?_ ?_ ?_);exact rfl;exact rfl;exact HX3.out.flt))
   have hf:=qay HX3.out bwR (xx)
   refine qcc results176 hf (.string ⟨#[]⟩) (.int .i64 0) rfl rfl rfl rfl ⟨?_,hf.2⟩
   rw[HE.out]
   rfl
  ·have hkb:=ltL hc
   have hh:=qa7 HL.out HI.out hc hp
   rw[hh] at cH1
   have HN:Hid (qch bs lim (x-(k+1-i)) (k+1) (qaL bs i (k+1-i))=R):=by
    show _=_
    have hik:=HK.out.1
    rw[show k+1-i=(k-i)+1 by omega,qcJ (p:=i) (k:=k-i) (c:=ch) (by rw[show i+(k-i)=k by omega];exact hc),show x-((k-i)+1)=x-(k-i)-1 by omega,←qfh (by omega) hc hp]
    exact HR.out
   have HNI:=show Hid (InR bs lim (k+1)) from qav HI.out hc hp
   clear HR hc hp hh cH cB
   go_wp2_with (first
    |(go_at_call 113;refine ck4 (cH1 _) HX.out.next (fun _ h=>h.box) ?_;clear cH1 c0 c1 c2 c3;intro w2 HX2 c0 c1 c2 c3))
   go_roundg (gk-1)
   case measure=>have:=hg.out;omega
   case rel=>exact⟨k+1,by go_num,by show _≤_;have:=hg.out;omega,HX2,HNI,⟨by have:=HK.out.1;omega,by have:=HK.out.1;omega⟩,HN⟩
theorem qnQ (W:World)(bs:List UInt8)(fm d l lim:Int)(i x:Nat)(hl:Lm bs l lim)(hi:InR bs lim i)(hb:bs.length≤200000000)(n:Int)(hx:bs.length<x)(hn1:(bs.length:Int)<n)(hn2:n≤9223372036854775807)(hn3:9223372036854775807<(i:Int)+n):Calls prog 176 #[.agg (inA bs fm d l),.int .i64 i,.int .i64 n,.bool false] W fun e W'=>qlZ (qch bs lim x i []) e∧Below W.heap.size W W':=by
 obtain⟨R,HR⟩:∃R,Hid (qch bs lim x i []=R):=⟨_,show _=_ from rfl⟩
 rw[HR.out]
 have hsz:=qaS bs
 have hil:=hi.1
 have HL:Hid (Lm bs l lim):=hl
 have HI:Hid (InR bs lim i):=hi
 have cH:=qdb bs fm d l
 have cB:=qdu bs fm d l
 obtain⟨wv,hwv⟩:∃wv,IntKind.i64.wrap ((i:Int)+n)=wv:=⟨_,rfl⟩
 have hneg:wv<0:=by rw[←hwv];exact qgD _ hn3 (by omega)
 have HX:=qbB W bs fm d l
 clear hl hi
 unfold inA
 go_enter func176,ntmps176
 go_wp2
 go_loopg [11] (bs.length+1-i) (fun g z wr=>∃k:Nat,z=.int .i64 k∧Hid (bs.length+1≤k+g)∧Hid (RIn W (inA bs fm d l) (W.heap.size+1) wr)∧Hid (InR bs lim k)∧Hid (i≤k∧k-i≤x)∧Hid (qch bs lim (x-(k-i)) (k) (qaL bs i (k-i))=R))
 case atStart=>exact⟨i,rfl,by show _≤_;omega,HX,HI,⟨Nat.le_refl _,by omega⟩,by show _=_;rw[Nat.sub_self,qcI,Nat.sub_zero];exact HR.out⟩
 case round =>
  clear HR HX HI
  obtain⟨k,rfl,hg,HX,HI,HK,HR⟩:=hrel
  have hkl:=HI.out.1
  obtain⟨c0,c1,c2,c3⟩:=qa3 HX.out.box
  have hkx2:k-i<x:=by omega
  have hlt:¬(k:Int)<wv:=by omega
  have hnle:¬n≤(bs.length:Int):=by omega
  have cH1:=fun V=>cH V k
  rcases qcm (bs:=bs) (lim:=lim) k with hno|⟨ch,hc,hp⟩
  ·obtain⟨h1,h2⟩:=qkA (m:=x-(k-i)) (acc:=qaL bs i (k-i)) (by omega) HI.out HL.out hno
   have HE:Hid (R=.error (qaI bs l k 9)):=HR.out.symm.trans h1
   rw[h2] at cH1
   have cB1:=fun V=>cB V k 9
   generalize qaI bs l k 9=xx at *
   clear HR h1 h2 hno cH cB HK hg
   go_wp2_with (first
    |(go_at_call 113;refine ck4 (cH1 _) HX.out.next (fun _ h=>h.box) ?_;clear cH1 c0 c1 c2 c3;intro w2 HX2 c0 c1 c2 c3)
    |(go_at_call 71;refine ck4 (cB1 _) HX2.out.next (fun _ h=>h.box) ?_;clear cB1 c0 c1 c2 c3;intro w3 HX3 c0 c1 c2 c3)
    |((with_reducible refine stF 10 35 rfl rfl (W.heap.size+1) (xx) ?_ ?_ ?_ ?_);exact rfl;exact rfl;exact HX3.out.flt))
   have hf:=qay HX3.out bwR (xx)
   refine qcc results176 hf (.string ⟨#[]⟩) (.int .i64 0) rfl rfl rfl rfl ⟨?_,hf.2⟩
   rw[HE.out]
   rfl
  ·have hkb:=ltL hc
   have hh:=qa7 HL.out HI.out hc hp
   rw[hh] at cH1
   have HN:Hid (qch bs lim (x-(k+1-i)) (k+1) (qaL bs i (k+1-i))=R):=by
    show _=_
    have hik:=HK.out.1
    rw[show k+1-i=(k-i)+1 by omega,qcJ (p:=i) (k:=k-i) (c:=ch) (by rw[show i+(k-i)=k by omega];exact hc),show x-((k-i)+1)=x-(k-i)-1 by omega,←qfh (by omega) hc hp]
    exact HR.out
   have HNI:=show Hid (InR bs lim (k+1)) from qav HI.out hc hp
   clear HR hc hp hh cH cB
   go_wp2_with (first
    |(go_at_call 113;refine ck4 (cH1 _) HX.out.next (fun _ h=>h.box) ?_;clear cH1 c0 c1 c2 c3;intro w2 HX2 c0 c1 c2 c3))
   go_roundg (gk-1)
   case measure=>have:=hg.out;omega
   case rel=>exact⟨k+1,by go_num,by show _≤_;have:=hg.out;omega,HX2,HNI,⟨by have:=HK.out.1;omega,by have:=HK.out.1;omega⟩,HN⟩
def esZ (kl:List (List UInt8))(ds:List (DataW Unit)):List (Lit×DataW Unit):=(kl.zip ds).map fun x=>(.string x.1,x.2)
theorem qfT {kl:List (List UInt8)}{ds:List (DataW Unit)}(h:kl.length=ds.length)(l:List UInt8)(d:DataW Unit):esZ (kl++[l]) (ds++[d])=esZ kl ds++[(.string l,d)]:=by
 unfold esZ
 rw[List.zip_append h,List.map_append]
 rfl
theorem qcF {kl:List (List UInt8)}{ds:List (DataW Unit)}(h:kl.length=ds.length):(esZ kl ds).length=ds.length:=by
 unfold esZ
 rw[List.length_map,List.length_zip]
 omega
theorem qhQ:∀{kl:List (List UInt8)} {ds:List (DataW Unit)},kl.length=ds.length→(esZ kl ds).map qo0=kl.map qhG
 |[],[],_=>rfl
 |[],_::_,h=>by simp at h
 |_::_,[],h=>by simp at h
 |l::kl,d::ds,h=>by
  have ih:=qhQ (kl:=kl) (ds:=ds) (by simpa using h)
  unfold esZ at ih ⊢
  rw[List.zip_cons_cons,List.map_cons,List.map_cons,List.map_cons,ih]
  rfl
theorem qkN {kl:List (List UInt8)}{ds:List (DataW Unit)}{i:Nat}{key:Lit}{d:DataW Unit}(h:(esZ kl ds)[i]? = some (key,d)):ds[i]? = some d∧∃l,key=.string l:=by
 unfold esZ at h
 rw[List.getElem?_map] at h
 cases hz:(kl.zip ds)[i]? with
 |none=>rw[hz] at h;cases h
 |some x =>
  rw[hz] at h
  injection h with h
  injection h with h1 h2
  rw[List.getElem?_zip_eq_some] at hz
  exact⟨by rw[hz.2,h2],_,h1.symm⟩
structure qdz (k:Nat)(V:World)(b:Nat)(kv u:Value)(ex:Nat→Prop)(kl:List (List UInt8))(ds:List (DataW Unit)):Prop where
 keys:V.ownsRow b 9 1 kv kl.length (kl.map qhG)
 kids:qbh k V b u (fun j=>some j=kv.ownBlock∨ex j) ds
 len:kl.length=ds.length
 apart:∀g,kv.ownBlock=some g→¬u.ownBlock=some g
 exk:∀g,kv.ownBlock=some g→¬ex g
 exu:∀g,u.ownBlock=some g→¬ex g
theorem qmO (k:Nat)(V:World)(b:Nat)(ex:Nat→Prop):qdz k V b qaf qaf ex [] []:=⟨World.ownsRow_nil _ _ _ _,qdq _ _ _ _,rfl,(fun g h=>by cases h),(fun g h=>by cases h),(fun g h=>by cases h)⟩
theorem qcd {V V':World}{b:Nat}{t:TypeId}{size n:Nat}{u:Value}{xs:List Value}(h:V.ownsRow b t size u n xs)(hk:∀j,u.ownBlock=some j→b≤j→j<V.heap.size→V'.heap[j]? = V.heap[j]?):V'.ownsRow b t size u n xs:=by
 refine⟨h.1,?_⟩
 rcases h.2 with h2|⟨g,cap,cur,e,hb,hg,h3⟩
 ·exact .inl h2
 ·exact .inr ⟨g,cap,cur,e,hb,(hk g (by rw[e];rfl) hb (ltA hg)).trans hg,h3⟩
theorem qdz.next {k:Nat}{V V':World}{b:Nat}{kv u:Value}{ex:Nat→Prop}{kl:List (List UInt8)}{ds:List (DataW Unit)}(h:qdz k V b kv u ex kl ds)(hs:V.heap.size≤V'.heap.size)(hk:∀j,b≤j→j<V.heap.size→¬ex j→V'.heap[j]? = V.heap[j]?):qdz k V' b kv u ex kl ds:=by
 refine⟨qcd h.keys (fun j e h1 h2=>hk j h1 h2 (h.exk j e)),?_,h.len,h.apart,h.exk,h.exu⟩
 obtain⟨xs,h1,h2⟩:=h.kids
 refine⟨xs,qcd h1 (fun j e h3 h4=>hk j h3 h4 (h.exu j e)),fun i d hd => ?_⟩
 obtain⟨a,e1,e2⟩:=h2 i d hd
 exact⟨a,e1,e2.same (fun j hj=>⟨hj.1,by have:=hj.2.1;omega,hj.2.2⟩) (fun j hj=>hk j hj.1 hj.2.1 (fun hx=>hj.2.2.2 (.inr hx)))⟩
theorem qdz.other {k:Nat}{V:World}{b:Nat}{kv u:Value}{ex ex':Nat→Prop}{kl:List (List UInt8)}{ds:List (DataW Unit)}(h:qdz k V b kv u ex kl ds)(hx:∀j,ex' j→ex j∨V.heap.size≤j):qdz k V b kv u ex' kl ds:=by
 refine⟨h.keys,?_,h.len,h.apart,fun g e hg => ?_,fun g e hg => ?_⟩
 ·obtain⟨xs,h1,h2⟩:=h.kids
  refine⟨xs,h1,fun i d hd => ?_⟩
  obtain⟨a,e1,e2⟩:=h2 i d hd
  refine⟨a,e1,e2.same (fun j hj=>⟨hj.1,hj.2.1,hj.2.2.1,fun hh => ?_⟩) (fun _ _=>rfl)⟩
  rcases hh with hh|hh
  ·exact hj.2.2.2 (.inl hh)
  ·rcases hx j hh with h'|h'
   ·exact hj.2.2.2 (.inr h')
   ·have:=hj.2.1;omega
 ·rcases hx g hg with h'|h'
  ·exact h.exk g e h'
  ·have:=qb9 h.keys e;omega
 ·obtain⟨xs,h1,_⟩:=h.kids
  rcases hx g hg with h'|h'
  ·exact h.exu g e h'
  ·have:=qb9 h1 e;omega
theorem qdz.map {k:Nat}{V:World}{b B:Nat}{kv u:Value}{ex:Nat→Prop}{kl:List (List UInt8)}{ds:List (DataW Unit)}(h:qdz k V b kv u ex kl ds)(hB:B≤b):qbD (k+1) V (fun j=>B≤j∧j<V.heap.size) (.agg (thA 7 0 ⟨#[]⟩ kv u)) (.map (esZ kl ds)):=by
 obtain⟨xs,h1,h2⟩:=h.kids
 have hF:∀g,b≤g→g<V.heap.size→B≤g∧g<V.heap.size:=fun g hg1 hg2=>⟨by omega,hg2⟩
 refine⟨kv,u,xs,rfl,?_,?_,fun i key d hd => ?_⟩
 ·rw[qcF h.len,qhQ h.len,←h.len]
  exact qbx h.keys _ hF
 ·rw[qcF h.len]
  exact qbx h1 _ hF
 ·obtain⟨e1,l,e2⟩:=qkN hd
  obtain⟨a,e3,e4⟩:=h2 i d e1
  exact⟨l,a,e2,e3,e4.same (fun j hj=>⟨by have:=hj.1;omega,hj.2.1⟩) (fun _ _=>rfl)⟩
def qmb (kl:List (List UInt8))(ds:List (DataW Unit))(l:List UInt8)(r:Except (Int×Int) (DataW Unit×Nat)):Except (Int×Int) ((List (List UInt8)×List (Lit×DataW Unit))×Nat):=match r with
 |.error e=>.error e
 |.ok (d,q)=>.ok ((l::kl.reverse,esZ kl ds++[(.string l,d)]),q)
theorem qeP {bs:List UInt8}{lim:Int}{kl:List (List UInt8)}{ds:List (DataW Unit)}{l:List UInt8}{r r':Except (Int×Int) (DataW Unit×Nat)}(h:qaZ bs lim r r'):qaZ bs lim (qmb kl ds l r) (qmb kl ds l r'):=by
 rcases h with rfl|⟨q,h1,h2,h3,x,h4⟩
 ·exact .inl rfl
 ·rw[h1,h4]
  exact .inr ⟨q,rfl,h2,h3,_,rfl⟩
theorem qkR {bs:List UInt8}{l lim:Int}{x:UInt8}{p:Nat}(hl:Lm bs l lim)(hi:InR bs lim p):(qaz bs l p=false∧qaw bs lim [x] p=.error (qaI bs l p 9))∨(∃c,bs[p]? = some c∧qaz bs l p=true∧¬(p:Int)=lim∧((¬c=x∧qaw bs lim [x] p=.error (qaI bs l p 9))∨(c=x∧InR bs lim (p+1)∧qaw bs lim [x] p=.ok ((),p+1)))):=by
 rw[qaw]
 cases hc:bs[p]? with
 |none=>exact .inl ⟨qa9 hc,by rw[qaH hi.1 hc]⟩
 |some c =>
  simp only[]
  by_cases hp:(p:Int)=lim
  ·rw[if_pos hp]
   exact .inl ⟨qaJ hl hc hp,by rw[qaU hl hc hp]⟩
  ·rw[if_neg hp]
   refine .inr ⟨c,rfl,qa7 hl hi hc hp,hp,?_⟩
   by_cases hx:c=x
   ·rw[if_pos hx]
    exact .inr ⟨hx,qav hi hc hp,rfl⟩
   ·rw[if_neg hx]
    exact .inl ⟨hx,by rw[qa6 hl hi hc hp]⟩
theorem qmy {bs:List UInt8}{l lim:Int}(hl:Lm bs l lim){rd:Nat→Except (Int×Int) (DataW Unit×Nat)}(hlm:∀p:Nat,(p:Int)=lim→p<bs.length→rd p=.error (8,(p:Int))){p:Nat}(hi:InR bs lim p){kl:List (List UInt8)}{ds:List (DataW Unit)}{R:Except (Int×Int) ((List (List UInt8)×List (Lit×DataW Unit))×Nat)}(hR:enJ bs lim rd (kl.reverse,esZ kl ds) p=R):(qaz bs l p=false∧R=.error (qaI bs l p 9))∨∃c,bs[p]? = some c∧qaz bs l p=true∧((¬c.toNat=34∧R=.error (qaI bs l p 9))∨(c.toNat=34∧InR bs lim (p+1) ∧
   ((∃f,qbu bs lim (bs.length+1-(p+1)) (p+1) [] 0=.error f∧R=.error f)∨∃t r,qbu bs lim (bs.length+1-(p+1)) (p+1) [] 0=.ok (t,r)∧InR bs lim r∧p+1<r ∧
    ((t∈kl∧R=.error (qaI bs l (r-1) 12))∨(¬t∈kl∧InR bs lim (skR bs l (bs.length+1-r) r) ∧
     ((∃f,qaw bs lim [58] (skR bs l (bs.length+1-r) r)=.error f∧R=.error f)∨∃p3,qaw bs lim [58] (skR bs l (bs.length+1-r) r)=.ok ((),p3)∧InR bs lim p3∧r<p3∧InR bs lim (skR bs l (bs.length+1-p3) p3)∧p3≤skR bs l (bs.length+1-p3) p3∧∀r',qaZ bs lim (rd (skR bs l (bs.length+1-p3) p3)) r'→qaZ bs lim R (qmb kl ds t r'))))))):=by
 unfold enJ qkl at hR
 rcases qkR (x:=34) hl hi with ⟨h1,h2⟩|⟨c,hc,h1,hp,⟨h2,h3⟩|⟨h2,h3,h4⟩⟩
 ·rw[h2] at hR
  exact .inl ⟨h1,hR.symm⟩
 ·rw[h3] at hR
  exact .inr ⟨c,hc,h1,.inl ⟨fun e=>h2 (UInt8.toNat_inj.1 (e.trans (by rfl))),hR.symm⟩⟩
 ·rw[h4] at hR
  simp only[] at hR
  refine .inr ⟨c,hc,h1,.inr ⟨by rw[h2];rfl,h3,?_⟩⟩
  cases ht:qbu bs lim (bs.length+1-(p+1)) (p+1) [] 0 with
  |error f =>
   rw[ht] at hR
   exact .inl ⟨f,rfl,hR.symm⟩
  |ok x =>
   obtain⟨t,r⟩:=x
   rw[ht] at hR
   have hr:=qdT _ _ _ _ _ _ h3 ht
   have hgt:=(qcK bs lim _ _ _ _ _ _ ht).1
   refine .inr ⟨t,r,rfl,hr,hgt,?_⟩
   simp only[List.mem_reverse] at hR
   by_cases hm:t∈kl
   ·rw[if_pos hm] at hR
    obtain⟨r0,rfl⟩:∃r0,r=r0+1:=⟨r-1,by omega⟩
    refine .inl ⟨hm,?_⟩
    rw[←hR,Nat.add_sub_cancel,qe1 hl hr]
    simp only[]
    congr 2
    omega
   ·rw[if_neg hm] at hR
    simp only[] at hR
    refine .inr ⟨hm,?_⟩
    rcases qfJ hl (bs.length+1-r) r hr with ⟨q,k1,k2,k3,k4,_⟩|⟨q,k1,k2,k3,k4⟩
    ·rw[k1] at hR
     rw[k2]
     simp only[] at hR
     refine⟨k3,?_⟩
     cases hw:qaw bs lim [58] q with
     |error f =>
      rw[hw] at hR
      exact .inl ⟨f,rfl,hR.symm⟩
     |ok x =>
      obtain⟨_,p3⟩:=x
      rw[hw] at hR
      obtain⟨m1,m2⟩:=qba _ _ _ k3 hw
      simp only[List.length_cons,List.length_nil] at m1
      refine .inr ⟨p3,rfl,m2,by omega,?_⟩
      simp only[] at hR
      rcases qfJ hl (bs.length+1-p3) p3 m2 with ⟨q',n1,n2,n3,n4,_⟩|⟨q',n1,n2,n3,n4⟩
      ·rw[n1] at hR
       rw[n2]
       refine⟨n3,n4,fun r' hr' => ?_⟩
       have he:=qeP (kl:=kl) (ds:=ds) (l:=t) hr'
       have e:qmb kl ds t (rd q')=R:=by
        rw[←hR]
        simp only[]
        unfold qmb
        cases rd q' with
        |error f=>rfl
        |ok x=>rfl
       rw[e] at he
       exact he
      ·rw[n1] at hR
       rw[n2]
       refine⟨⟨by omega,by omega⟩,by have:=m2.2;omega,fun r' hr' => ?_⟩
       have he:=qeP (kl:=kl) (ds:=ds) (l:=t) hr'
       have e:qmb kl ds t (rd q')=R:=by
        rw[←hR,hlm q' n3 n4]
        rfl
       rw[e] at he
       exact he
    ·rw[k1] at hR
     rw[k2]
     refine⟨⟨by omega,by omega⟩,.inl ⟨(8,(q:Int)),?_,hR.symm⟩⟩
     obtain⟨c',hc'⟩:∃c',bs[q]? = some c':=⟨_,List.getElem?_eq_getElem k4⟩
     rw[qaw,hc']
     simp only[]
     rw[if_pos k3]
end
end Go.Proofs.YtllcbnfmihfaaaaGreatDoor
