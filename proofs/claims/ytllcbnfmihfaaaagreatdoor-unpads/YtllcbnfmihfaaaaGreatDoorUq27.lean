import Derived.Test.YtllcbnfmihfaaaaGreatDoorUq07
set_option maxRecDepth 100000
set_option maxHeartbeats 8000000
namespace Go.Proofs.YtllcbnfmihfaaaaGreatDoor
open Go.Proofs.Tryz
section
open Go.RowKit
def sgn (m:Bool)(r:Except (Int×Int) (Nat×Nat)):Except (Int×Int) (Int×Nat):=match r with
 |.ok (x,p)=>.ok (if m=true then -(x:Int) else (x:Int),p)
 |.error e=>.error e
def qeS (bs:List UInt8)(lim:Int)(r:Except (Int×Int) (Int×Nat))(e:Ending):Prop:=∃r',qaZ bs lim r r'∧(∀z q,r'=.ok (z,q)→InR bs lim q ∧ -9223372036854775808≤z∧z≤9223372036854775807)∧qnI r' e
theorem qff {bs:List UInt8}{lim:Int}{m:Bool}{R:Except (Int×Int) (Nat×Nat)}{f:Int×Int}(h:R=.error f):qeS bs lim (sgn m R) (.returned (.tuple #[.agg th0,.int .i64 0,.agg (qae f)])):=⟨.error f,.inl (by rw[h];rfl),(fun z q e=>by cases e),rfl⟩
theorem qiI {bs:List UInt8}{lim:Int}{m:Bool}{R:Except (Int×Int) (Nat×Nat)}{num k:Nat}{z:Int}(h:R=.ok (num,k))(hi:InR bs lim k)(hz:z=if m=true then -(num:Int) else (num:Int))(h1 : -9223372036854775808≤z)(h2:z≤9223372036854775807):qeS bs lim (sgn m R) (.returned (.tuple #[.agg (thA 3 z ⟨#[]⟩ qaf qaf),.int .i64 k,.agg (qae (0,0))])) :=
 ⟨.ok (z,k),.inl (by rw[h,hz];rfl),(fun z' q e=>by injection e with e;injection e with e1 e2;subst e1;subst e2;exact⟨hi,h1,h2⟩),rfl⟩
theorem qmX {bs:List UInt8}{lim:Int}{m:Bool}{R:Except (Int×Int) (Nat×Nat)}{k:Nat}{z:Int}(h:R=.error (8,(k:Int)))(hp:(k:Int)=lim)(hk:k<bs.length)(h1 : -9223372036854775808≤z)(h2:z≤9223372036854775807):qeS bs lim (sgn m R) (.returned (.tuple #[.agg (thA 3 z ⟨#[]⟩ qaf qaf),.int .i64 k,.agg (qae (0,0))])) :=
 ⟨.ok (z,k),.inr ⟨k,by rw[h];rfl,hp,hk,_,rfl⟩,(fun z' q e=>by injection e with e;injection e with e1 e2;subst e1;subst e2;exact⟨⟨by omega,by omega⟩,h1,h2⟩),rfl⟩
theorem qfg {bs:List UInt8}{l:Int}{p:Nat}(h:qaz bs l p=false):qjs bs l p=false:=by
 unfold qaz at h
 unfold qjs
 cases hc:bs[p]? with
 |none=>rfl
 |some c =>
  simp only[]
  rw[decide_eq_true (ltL hc),Bool.true_and] at h
  rw[h]
  rfl
theorem qkD (bs:List UInt8)(lim:Int)(most:Nat)(z:Bool)(k num:Nat)(hk:k≤bs.length):qcO bs lim most z (bs.length+1-k) k num=match bs[k]? with
  |none=>.ok (num,k)
  |some c=>if (k:Int)=lim then .error (8,(k:Int)) else
   if qaG c=true then (if z=true then .error (9,(k:Int)) else if (most-(c.toNat-48)) / 10<num then .error (10,(k:Int)) else qcO bs lim most z (bs.length+1-(k+1)) (k+1) (num*10+(c.toNat-48)))
   else if c.toNat=46∨c.toNat=101∨c.toNat=69 then .error (10,(k:Int)) else .ok (num,k):=by
 obtain⟨g,hg⟩:∃g,bs.length+1-k=g+1:=⟨bs.length-k,by omega⟩
 rw[hg,qcO,show bs.length+1-(k+1)=g by omega]
 cases bs[k]? <;> rfl
theorem qdY {bs:List UInt8}{l lim:Int}{p:Nat}{c:UInt8}(hl:Lm bs l lim)(hi:InR bs lim p)(h:bs[p]? = some c)(hp:¬(p:Int)=lim):qjs bs l p=qaG c:=by
 have h1:=ltL h
 have h2:=hl p h1
 have h3:=hi.2
 unfold qjs
 rw[h]
 simp only[]
 rw[decide_eq_true (p:=(p:Int)<l) (by omega),Bool.true_and]
theorem qi0 (W:World)(bs:List UInt8)(fm d l:Int)(i:Nat)(c:UInt8)(hc:bs[i]? = some c)(hm:c.toNat=45)(hb:bs.length≤200000000)(x:Int×Int)(hD:qjs bs l (i+1)=false)(hX:qaI bs l (i+1) 9=x):Calls prog 173 #[.agg (inA bs fm d l),.int .i64 i] W fun e W'=>qnI (.error x) e∧Below W.heap.size W W':=by
 have hil:=ltL hc
 have hix:=qah bs i c hc
 have h45:((c.toNat:Int)==45)=true:=by rw[hm];rfl
 have cD:∀V,Calls prog 206 #[.agg #[.string ⟨bs.toArray⟩,.int .i64 fm,.int .i64 d,.int .i64 l],.int .i64 ((i:Int)+1)] V fun e W'=>e=.returned (.bool false)∧Below V.heap.size V W':=fun V=>by
  have:=qez V bs fm d l (i+1)
  rw[hD] at this
  exact this
 have cB:∀V,Calls prog 71 #[.agg #[.string ⟨bs.toArray⟩,.int .i64 fm,.int .i64 d,.int .i64 l],.int .i64 ((i:Int)+1),.int .i64 9] V fun e W'=>e=.returned (.agg (qae x))∧Below V.heap.size V W':=fun V=>by
  have:=qaR V bs fm d l (i+1) 9
  rw[hX] at this
  exact this
 have HX:=qbk W bs fm d l
 clear hc hm hD hX
 unfold inA
 go_enter func173,ntmps173
 go_wp2_with (first
  |(go_at_call 206;refine ck4 (cD _) HX.out.next (fun _ h=>h.box) ?_;clear cD;intro w2 HX2 c0 c1 c2 c3)
  |(go_at_call 71;refine ck4 (cB _) HX2.out.next (fun _ h=>h.box) ?_;clear cB c0 c1 c2 c3;intro w3 HX3 c0 c1 c2 c3)
  |((with_reducible refine stT 4 23 rfl rfl (W.heap.size+1) (th0) ?_ ?_ ?_ ?_ ?_);exact rfl;exact rfl;exact HX3.out.th;exact thg)
  |((with_reducible refine stF 6 26 rfl rfl (W.heap.size+2) (x) ?_ ?_ ?_ ?_);exact rfl;exact rfl;exact qan HX3.out bwR _))
 have hf:=qao HX3.out bwR (th0) (x)
 refine eoT results173 hf _ rfl rfl rfl rfl ⟨?_,hf.2.2⟩
 rfl
theorem qjG (W:World)(bs:List UInt8)(fm d l lim:Int)(i f:Nat)(c ch:UInt8)(hc:bs[i]? = some c)(hm:c.toNat=45)(hf:f=(i+1))(hch:bs[f]? = some ch)(hd:qaG ch=true)(hfl:¬(f:Int)=lim)(hl:Lm bs l lim)(hi:InR bs lim f)(hb:bs.length≤200000000):Calls prog 173 #[.agg (inA bs fm d l),.int .i64 i] W fun e W'=>qeS bs lim (sgn true (qcO bs lim 9223372036854775808 (ch.toNat==48) (bs.length+1-(f+1)) (f+1) (ch.toNat-48))) e∧Below W.heap.size W W':=by
 obtain⟨R,HR⟩:∃R,Hid (qcO bs lim 9223372036854775808 (ch.toNat==48) (bs.length+1-(f+1)) (f+1) (ch.toNat-48)=R):=⟨_,show _=_ from rfl⟩
 rw[HR.out]
 have hil:=ltL hc
 have hfb:=ltL hch
 have hix:=qah bs i c hc
 have hixf:=fun V=>qah bs f ch hch V
 have h45:((c.toNat:Int)==45)=true:=by rw[hm];rfl
 have HCH:Hid (bs[f]? = some ch):=hch
 have HD:Hid (qaG ch=true):=hd
 have HFL:Hid (¬(f:Int)=lim):=hfl
 have HL:Hid (Lm bs l lim):=hl
 have HI:Hid (InR bs lim f):=hi
 have cD:∀V (k:Nat),Calls prog 206 #[.agg #[.string ⟨bs.toArray⟩,.int .i64 fm,.int .i64 d,.int .i64 l],.int .i64 k] V fun e W'=>e=.returned (.bool (qjs bs l k))∧Below V.heap.size V W':=fun V k=>qez V bs fm d l k
 have cH:=qdb bs fm d l
 have cB:=qdu bs fm d l
 have cD0:∀V,Calls prog 206 #[.agg #[.string ⟨bs.toArray⟩,.int .i64 fm,.int .i64 d,.int .i64 l],.int .i64 ((i:Int)+1)] V fun e W'=>e=.returned (.bool true)∧Below V.heap.size V W':=fun V=>by
  have:=cD V f
  rw[qdY hl hi hch hfl,hd,hf] at this
  exact this
 have HX:=qbk W bs fm d l
 have HF:Hid (f=(i+1)):=hf
 have HFF:Hid (((i:Int)+1)=(f:Int)):=by show _=_;omega
 clear hc hm hch hd hfl hl hi hf
 unfold inA
 go_enter func173,ntmps173
 go_wp2_with (first
  |(go_at_call 206;refine ckB (cD0 _) HX.out.next ?_;clear cD0;intro w2 hB2 HX2;obtain⟨c0,c1,c2,c3⟩:=qa3 HX2.out.box))
 rw[HFF.out]
 clear c0 c1 c2 c3 hB2 HX
 go_loopg [1,9] (bs.length+1-f) (fun g zi zn wr=>∃k num:Nat,zi=.int .i64 k∧zn=.int .i64 (-(num:Int))∧Hid (bs.length+1≤k+g)∧Hid (f≤k)∧Hid (num≤9223372036854775808)∧Hid (RTh W (inA bs fm d l) wr)∧Hid (InR bs lim k)∧Hid ((k=f∧num=0)∨(f<k∧qcO bs lim 9223372036854775808 (ch.toNat==48) (bs.length+1-k) k num=R)))
 case atStart=>exact⟨f,0,rfl,rfl,by show _≤_;omega,Nat.le_refl _,Nat.zero_le _,HX2,HI,.inl ⟨rfl,rfl⟩⟩
 case round =>
  clear HX2 HI
  obtain⟨k,num,rfl,rfl,hg,hfk,hnm,HX,HI,HP⟩:=hrel
  have hkk:=HI.out.1
  obtain⟨c0,c1,c2,c3⟩:=qa3 HX.out.box
  have cD1:=fun V=>cD V k
  have cH1:=fun V=>cH V k
  have hrk:f<k→R=_:=fun hlt=>by
   rcases HP.out with h|h
   ·omega
   ·exact h.2.symm.trans (qkD bs lim 9223372036854775808 (ch.toNat==48) k num hkk)
  have hk0:k=f→bs[k]? = some ch:=fun h=>by rw[h];exact HCH.out
  cases hck:bs[k]? with
  |none =>
   have HE:Hid (R=.ok (num,k)):=by
    show _=_
    have h1:¬k=f:=fun h=>by rw[hk0 h] at hck;cases hck
    rw[hrk (by have:=hfk.out;omega),hck]
   have HV:Hid (qeS bs lim (sgn true R) (.returned (.tuple #[.agg (thA 3 (-(num:Int)) ⟨#[]⟩ qaf qaf),.int .i64 k,.agg (qae (0,0))]))):=qiI HE.out HI.out rfl (by have:=hnm.out;omega) (by have:=hnm.out;omega)
   rw[qfg (qa9 hck)] at cD1
   rw[qa9 hck] at cH1
   clear hrk hk0 hck cD cH cB HP hixf hix
   have hnb:=hnm.out
   go_wp2_with (first
    |(go_at_call 206;refine ck4 (cD1 _) HX.out.next (fun _ h=>h.box) ?_;clear cD1 c0 c1 c2 c3;intro w2 HX2 c0 c1 c2 c3)
    |(go_at_call 113;refine ck4 (cH1 _) HX2.out.next (fun _ h=>h.box) ?_;clear cH1 c0 c1 c2 c3;intro w3 HX3 c0 c1 c2 c3)
    |((with_reducible refine stT 4 110 rfl rfl (W.heap.size+1) (thA 3 (-(num:Int)) ⟨#[]⟩ qaf qaf) ?_ ?_ ?_ ?_ ?_);exact rfl;exact rfl;exact HX3.out.th;exact thg)
    |((with_reducible refine stF 6 112 rfl rfl (W.heap.size+2) (0,0) ?_ ?_ ?_ ?_);exact rfl;exact rfl;exact qan HX3.out bwR _))
   have hf:=qao HX3.out bwR (thA 3 (-(num:Int)) ⟨#[]⟩ qaf qaf) (0,0)
   refine eoT results173 hf _ rfl rfl rfl rfl ⟨?_,hf.2.2⟩
   exact HV.out
  |some cc =>
   have hixk:=fun V=>qah bs k cc hck V
   have hkb:=ltL hck
   by_cases hp:(k:Int)=lim
   ·have h1:¬k=f:=fun h=>HFL.out (by rw[←h];exact hp)
    have HE:Hid (R=.error (8,(k:Int))):=by
     show _=_
     rw[hrk (by have:=hfk.out;omega),hck]
     simp only[]
     rw[if_pos hp]
    have HV:Hid (qeS bs lim (sgn true R) (.returned (.tuple #[.agg (thA 3 (-(num:Int)) ⟨#[]⟩ qaf qaf),.int .i64 k,.agg (qae (0,0))]))):=qmX HE.out hp hkb (by have:=hnm.out;omega) (by have:=hnm.out;omega)
    rw[qfg (qaJ HL.out hck hp)] at cD1
    rw[qaJ HL.out hck hp] at cH1
    clear hrk hk0 hck cD cH cB HP hixf hix hixk hp h1
    have hnb:=hnm.out
    go_wp2_with (first
     |(go_at_call 206;refine ck4 (cD1 _) HX.out.next (fun _ h=>h.box) ?_;clear cD1 c0 c1 c2 c3;intro w2 HX2 c0 c1 c2 c3)
     |(go_at_call 113;refine ck4 (cH1 _) HX2.out.next (fun _ h=>h.box) ?_;clear cH1 c0 c1 c2 c3;intro w3 HX3 c0 c1 c2 c3)
     |((with_reducible refine stT 4 110 rfl rfl (W.heap.size+1) (thA 3 (-(num:Int)) ⟨#[]⟩ qaf qaf) ?_ ?_ ?_ ?_ ?_);exact rfl;exact rfl;exact HX3.out.th;exact thg)
     |((with_reducible refine stF 6 112 rfl rfl (W.heap.size+2) (0,0) ?_ ?_ ?_ ?_);exact rfl;exact rfl;exact qan HX3.out bwR _))
    have hf:=qao HX3.out bwR (thA 3 (-(num:Int)) ⟨#[]⟩ qaf qaf) (0,0)
    refine eoT results173 hf _ rfl rfl rfl rfl ⟨?_,hf.2.2⟩
    exact HV.out
   ·rw[qdY HL.out HI.out hck hp] at cD1
    rw[qa7 HL.out HI.out hck hp] at cH1
    cases hdg:qaG cc
    ·rw[hdg] at cD1
     have h1:¬k=f:=fun h=>by
      have h2:=hk0 h
      rw[hck] at h2
      injection h2 with h2
      rw[h2,HD.out] at hdg
      cases hdg
     have hR:=hrk (by have:=hfk.out;omega)
     rw[hck] at hR
     simp only[] at hR
     rw[if_neg hp,if_neg (by rw[hdg];decide)] at hR
     by_cases he:cc.toNat=46∨cc.toNat=101∨cc.toNat=69
     ·rw[if_pos he] at hR
      have HV:Hid (qeS bs lim (sgn true R) (.returned (.tuple #[.agg th0,.int .i64 0,.agg (qae (10,(k:Int)))]))):=qff hR
      have cB1:=fun V=>cB V k 10
      rw[qa6 HL.out HI.out hck hp] at cB1
      have hd3:((cc.toNat:Int)==46)=true∨(((cc.toNat:Int)==46)=false∧((cc.toNat:Int)==101)=true)∨(((cc.toNat:Int)==46)=false∧((cc.toNat:Int)==101)=false∧((cc.toNat:Int)==69)=true):=by
       rcases he with h|h|h
       ·left;rw[h];rfl
       ·right;left;rw[h];exact⟨rfl,rfl⟩
       ·right;right;rw[h];exact⟨rfl,rfl,rfl⟩
      clear hrk hk0 hck cD cH cB HP hixf hix hp h1 hR hdg he
      rcases hd3 with h46|⟨h46,h101⟩|⟨h46,h101,h69⟩
      ·go_wp2_with (first
        |(go_at_call 206;refine ck4 (cD1 _) HX.out.next (fun _ h=>h.box) ?_;clear cD1 c0 c1 c2 c3;intro w2 HX2 c0 c1 c2 c3)
        |(go_at_call 113;refine ck4 (cH1 _) HX2.out.next (fun _ h=>h.box) ?_;clear cH1 c0 c1 c2 c3;intro w3 HX3 c0 c1 c2 c3)
        |(go_at_call 71;refine ck4 (cB1 _) HX3.out.next (fun _ h=>h.box) ?_;clear cB1 c0 c1 c2 c3;intro w4 HX4 c0 c1 c2 c3)
        |((with_reducible refine stT 4 101 rfl rfl (W.heap.size+1) (th0) ?_ ?_ ?_ ?_ ?_);exact rfl;exact rfl;exact HX4.out.th;exact thg)
        |((with_reducible refine stF 6 104 rfl rfl (W.heap.size+2) (10,(k:Int)) ?_ ?_ ?_ ?_);exact rfl;exact rfl;exact qan HX4.out bwR _))
       have hf:=qao HX4.out bwR (th0) (10,(k:Int))
       refine eoT results173 hf _ rfl rfl rfl rfl ⟨?_,hf.2.2⟩
       exact HV.out
      ·go_wp2_with (first
        |(go_at_call 206;refine ck4 (cD1 _) HX.out.next (fun _ h=>h.box) ?_;clear cD1 c0 c1 c2 c3;intro w2 HX2 c0 c1 c2 c3)
        |(go_at_call 113;refine ck4 (cH1 _) HX2.out.next (fun _ h=>h.box) ?_;clear cH1 c0 c1 c2 c3;intro w3 HX3 c0 c1 c2 c3)
        |(go_at_call 71;refine ck4 (cB1 _) HX3.out.next (fun _ h=>h.box) ?_;clear cB1 c0 c1 c2 c3;intro w4 HX4 c0 c1 c2 c3)
        |((with_reducible refine stT 4 101 rfl rfl (W.heap.size+1) (th0) ?_ ?_ ?_ ?_ ?_);exact rfl;exact rfl;exact HX4.out.th;exact thg)
        |((with_reducible refine stF 6 104 rfl rfl (W.heap.size+2) (10,(k:Int)) ?_ ?_ ?_ ?_);exact rfl;exact rfl;exact qan HX4.out bwR _))
       have hf:=qao HX4.out bwR (th0) (10,(k:Int))
       refine eoT results173 hf _ rfl rfl rfl rfl ⟨?_,hf.2.2⟩
       exact HV.out
      ·go_wp2_with (first
        |(go_at_call 206;refine ck4 (cD1 _) HX.out.next (fun _ h=>h.box) ?_;clear cD1 c0 c1 c2 c3;intro w2 HX2 c0 c1 c2 c3)
        |(go_at_call 113;refine ck4 (cH1 _) HX2.out.next (fun _ h=>h.box) ?_;clear cH1 c0 c1 c2 c3;intro w3 HX3 c0 c1 c2 c3)
        |(go_at_call 71;refine ck4 (cB1 _) HX3.out.next (fun _ h=>h.box) ?_;clear cB1 c0 c1 c2 c3;intro w4 HX4 c0 c1 c2 c3)
        |((with_reducible refine stT 4 101 rfl rfl (W.heap.size+1) (th0) ?_ ?_ ?_ ?_ ?_);exact rfl;exact rfl;exact HX4.out.th;exact thg)
        |((with_reducible refine stF 6 104 rfl rfl (W.heap.size+2) (10,(k:Int)) ?_ ?_ ?_ ?_);exact rfl;exact rfl;exact qan HX4.out bwR _))
       have hf:=qao HX4.out bwR (th0) (10,(k:Int))
       refine eoT results173 hf _ rfl rfl rfl rfl ⟨?_,hf.2.2⟩
       exact HV.out
     ·rw[if_neg he] at hR
      have HV:Hid (qeS bs lim (sgn true R) (.returned (.tuple #[.agg (thA 3 (-(num:Int)) ⟨#[]⟩ qaf qaf),.int .i64 k,.agg (qae (0,0))]))):=qiI hR HI.out rfl (by have:=hnm.out;omega) (by have:=hnm.out;omega)
      have h46:((cc.toNat:Int)==46)=false:=by simp;omega
      have h101:((cc.toNat:Int)==101)=false:=by simp;omega
      have h69:((cc.toNat:Int)==69)=false:=by simp;omega
      clear hrk hk0 hck cD cH cB HP hixf hix hp h1 hR hdg he
      have hnb:=hnm.out
      go_wp2_with (first
       |(go_at_call 206;refine ck4 (cD1 _) HX.out.next (fun _ h=>h.box) ?_;clear cD1 c0 c1 c2 c3;intro w2 HX2 c0 c1 c2 c3)
       |(go_at_call 113;refine ck4 (cH1 _) HX2.out.next (fun _ h=>h.box) ?_;clear cH1 c0 c1 c2 c3;intro w3 HX3 c0 c1 c2 c3)
       |((with_reducible refine stT 4 110 rfl rfl (W.heap.size+1) (thA 3 (-(num:Int)) ⟨#[]⟩ qaf qaf) ?_ ?_ ?_ ?_ ?_);exact rfl;exact rfl;exact HX3.out.th;exact thg)
       |((with_reducible refine stF 6 112 rfl rfl (W.heap.size+2) (0,0) ?_ ?_ ?_ ?_);exact rfl;exact rfl;exact qan HX3.out bwR _))
      have hf:=qao HX3.out bwR (thA 3 (-(num:Int)) ⟨#[]⟩ qaf qaf) (0,0)
      refine eoT results173 hf _ rfl rfl rfl rfl ⟨?_,hf.2.2⟩
      exact HV.out
    ·rw[hdg] at cD1
     unfold qaG at hdg
     obtain⟨g1,g2⟩:=of_decide_eq_true hdg
     have hfk2:=hfk.out
     have hnm2:=hnm.out
     have hov:=qmW num (cc.toNat-48) (by omega)
     rw[show((cc.toNat-48:Nat):Int)=(cc.toNat:Int)-48 by omega] at hov
     by_cases hze:f<k∧(ch.toNat==48)=true
     ·have hlt:(f:Int)<(k:Int):=by omega
      have hz:((ch.toNat:Int)==48)=true:=by have:=hze.2;simp at this ⊢;omega
      have hR:=hrk hze.1
      rw[hck] at hR
      simp only[] at hR
      rw[if_neg hp,if_pos (by unfold qaG;exact hdg),if_pos hze.2] at hR
      have HV:Hid (qeS bs lim (sgn true R) (.returned (.tuple #[.agg th0,.int .i64 0,.agg (qae (9,(k:Int)))]))):=qff hR
      have cB1:=fun V=>cB V k 9
      rw[qa6 HL.out HI.out hck hp] at cB1
      clear hrk hk0 hck cD cH cB HP hix hp hR hdg hze hov cH1 HR
      go_wp2_with (first
       |(go_at_call 206;refine ck4 (cD1 _) HX.out.next (fun _ h=>h.box) ?_;clear cD1 c0 c1 c2 c3;intro w2 HX2 c0 c1 c2 c3)
       |(go_at_call 71;refine ck4 (cB1 _) HX2.out.next (fun _ h=>h.box) ?_;clear cB1 c0 c1 c2 c3;intro w4 HX4 c0 c1 c2 c3)
       |((with_reducible refine stT 4 47 rfl rfl (W.heap.size+1) (th0) ?_ ?_ ?_ ?_ ?_);exact rfl;exact rfl;exact HX4.out.th;exact thg)
       |((with_reducible refine stF 6 50 rfl rfl (W.heap.size+2) (9,(k:Int)) ?_ ?_ ?_ ?_);exact rfl;exact rfl;exact qan HX4.out bwR _))
      have hf:=qao HX4.out bwR (th0) (9,(k:Int))
      refine eoT results173 hf _ rfl rfl rfl rfl ⟨?_,hf.2.2⟩
      exact HV.out
     ·have hcase:(decide ((f:Int)<(k:Int))=false∧(k:Int)≤(f:Int))∨((f:Int)<(k:Int)∧((ch.toNat:Int)==48)=false):=by
       by_cases h:f<k
       ·refine .inr ⟨by omega,?_⟩
        have h2:¬(ch.toNat==48)=true:=fun h2=>hze ⟨h,h2⟩
        simp at h2 ⊢
        omega
       ·exact .inl ⟨by simp;omega,by omega⟩
      have hnum:k=f→num=0:=fun h=>by
       rcases HP.out with h2|h2
       ·exact h2.2
       ·omega
      by_cases hom:(9223372036854775808-(cc.toNat-48)) / 10<num
      ·have hfk3:f<k:=by
        rcases Nat.lt_or_ge f k with h|h
        ·exact h
        ·have:=hnum (by omega);omega
       have hR:=hrk hfk3
       rw[hck] at hR
       simp only[] at hR
       rw[if_neg hp,if_pos (by unfold qaG;exact hdg),if_neg (fun h=>hze ⟨hfk3,h⟩),if_pos hom] at hR
       have HV:Hid (qeS bs lim (sgn true R) (.returned (.tuple #[.agg th0,.int .i64 0,.agg (qae (10,(k:Int)))]))):=qff hR
       have cB1:=fun V=>cB V k 10
       rw[qa6 HL.out HI.out hck hp] at cB1
       have hlt:(f:Int)<(k:Int):=by omega
       have hz:((ch.toNat:Int)==48)=false:=by
        rcases hcase with h|h
        ·have:=h.2;omega
        ·exact h.2
       have hA : -(num:Int)<(-9223372036854775808+((cc.toNat:Int)-48)).tdiv 10:=hov.2 hom
       clear hrk hk0 hck cD cH cB HP hix hp hR hdg hze hcase hnum hom hov cH1 HR
       go_wp2_with (first
        |(go_at_call 206;refine ck4 (cD1 _) HX.out.next (fun _ h=>h.box) ?_;clear cD1 c0 c1 c2 c3;intro w2 HX2 c0 c1 c2 c3)
        |(go_at_call 71;refine ck4 (cB1 _) HX2.out.next (fun _ h=>h.box) ?_;clear cB1 c0 c1 c2 c3;intro w4 HX4 c0 c1 c2 c3)
        |((with_reducible refine stT 4 67 rfl rfl (W.heap.size+1) (th0) ?_ ?_ ?_ ?_ ?_);exact rfl;exact rfl;exact HX4.out.th;exact thg)
        |((with_reducible refine stF 6 70 rfl rfl (W.heap.size+2) (10,(k:Int)) ?_ ?_ ?_ ?_);exact rfl;exact rfl;exact qan HX4.out bwR _))
       have hf:=qao HX4.out bwR (th0) (10,(k:Int))
       refine eoT results173 hf _ rfl rfl rfl rfl ⟨?_,hf.2.2⟩
       exact HV.out
      ·have HN:Hid (qcO bs lim 9223372036854775808 (ch.toNat==48) (bs.length+1-(k+1)) (k+1) (num*10+(cc.toNat-48))=R):=by
        show _=_
        by_cases h:k=f
        ·have h2:=hk0 h
         rw[hck] at h2
         injection h2 with h2
         rw[hnum h,h2,h,Nat.zero_mul,Nat.zero_add]
         exact HR.out
        ·have hR:=hrk (by omega)
         rw[hck] at hR
         simp only[] at hR
         rw[if_neg hp,if_pos (by unfold qaG;exact hdg),if_neg (fun h2=>hze ⟨by omega,h2⟩),if_neg hom] at hR
         exact hR.symm
       have hA:¬-(num:Int)<(-9223372036854775808+((cc.toNat:Int)-48)).tdiv 10:=fun h=>by have:=hov.1 h;omega
       have hb1 : -9223372036854775808 ≤ -(num:Int)*10:=by omega
       have hb2 : -9223372036854775808 ≤ -(num:Int)*10-((cc.toNat:Int)-48):=by omega
       have T9:True:=trivial
       have HNX:Hid (InR bs lim (k+1)):=qav HI.out hck hp
       have HMX:Hid (num*10+(cc.toNat-48)≤9223372036854775808):=by show _≤_;omega
       clear hrk hk0 hck cD cH cB HP hix hp hdg hze hnum hom hov cH1 HR
       rcases hcase with ⟨hgt,hgt2⟩|⟨hlt,hz⟩
       ·go_wp2_with (first
         |(go_at_call 206;refine ck4 (cD1 _) HX.out.next (fun _ h=>h.box) ?_;clear cD1 c0 c1 c2 c3;intro w2 HX2 c0 c1 c2 c3))
        obtain⟨gg,hgg⟩:∃gg,gk=gg+1:=⟨gk-1,by have:=hg.out;omega⟩
        subst hgg
        go_roundg gg
        case measure=>omega
        case rel=>exact⟨k+1,num*10+(cc.toNat-48),by go_num,congrArg (Value.int .i64) (by omega),by show _≤_;have:=hg.out;omega,by show _≤_;omega,HMX,HX2,HNX,.inr ⟨by omega,HN.out⟩⟩
       ·go_wp2_with (first
         |(go_at_call 206;refine ck4 (cD1 _) HX.out.next (fun _ h=>h.box) ?_;clear cD1 c0 c1 c2 c3;intro w2 HX2 c0 c1 c2 c3))
        obtain⟨gg,hgg⟩:∃gg,gk=gg+1:=⟨gk-1,by have:=hg.out;omega⟩
        subst hgg
        go_roundg gg
        case measure=>omega
        case rel=>exact⟨k+1,num*10+(cc.toNat-48),by go_num,congrArg (Value.int .i64) (by omega),by show _≤_;have:=hg.out;omega,by show _≤_;omega,HMX,HX2,HNX,.inr ⟨by omega,HN.out⟩⟩
theorem qjT (W:World)(bs:List UInt8)(fm d l lim:Int)(i f:Nat)(c ch:UInt8)(hc:bs[i]? = some c)(hm:¬c.toNat=45)(hf:f=i)(hch:bs[f]? = some ch)(hd:qaG ch=true)(hfl:¬(f:Int)=lim)(hl:Lm bs l lim)(hi:InR bs lim f)(hb:bs.length≤200000000):Calls prog 173 #[.agg (inA bs fm d l),.int .i64 i] W fun e W'=>qeS bs lim (sgn false (qcO bs lim 9223372036854775807 (ch.toNat==48) (bs.length+1-(f+1)) (f+1) (ch.toNat-48))) e∧Below W.heap.size W W':=by
 obtain⟨R,HR⟩:∃R,Hid (qcO bs lim 9223372036854775807 (ch.toNat==48) (bs.length+1-(f+1)) (f+1) (ch.toNat-48)=R):=⟨_,show _=_ from rfl⟩
 rw[HR.out]
 have hil:=ltL hc
 have hfb:=ltL hch
 have hix:=qah bs i c hc
 have hixf:=fun V=>qah bs f ch hch V
 have h45:=nec (c:=c) 45 (by omega)
 have HCH:Hid (bs[f]? = some ch):=hch
 have HD:Hid (qaG ch=true):=hd
 have HFL:Hid (¬(f:Int)=lim):=hfl
 have HL:Hid (Lm bs l lim):=hl
 have HI:Hid (InR bs lim f):=hi
 have cD:∀V (k:Nat),Calls prog 206 #[.agg #[.string ⟨bs.toArray⟩,.int .i64 fm,.int .i64 d,.int .i64 l],.int .i64 k] V fun e W'=>e=.returned (.bool (qjs bs l k))∧Below V.heap.size V W':=fun V k=>qez V bs fm d l k
 have cH:=qdb bs fm d l
 have cB:=qdu bs fm d l
 have cD0:∀V,Calls prog 206 #[.agg #[.string ⟨bs.toArray⟩,.int .i64 fm,.int .i64 d,.int .i64 l],.int .i64 (i:Int)] V fun e W'=>e=.returned (.bool true)∧Below V.heap.size V W':=fun V=>by
  have:=cD V f
  rw[qdY hl hi hch hfl,hd,hf] at this
  exact this
 have HX:=qbk W bs fm d l
 have HF:Hid (f=i):=hf
 have HFF:Hid ((i:Int)=(f:Int)):=by show _=_;omega
 clear hc hm hch hd hfl hl hi hf
 unfold inA
 go_enter func173,ntmps173
 go_wp2_with (first
  |(go_at_call 206;refine ckB (cD0 _) HX.out.next ?_;clear cD0;intro w2 hB2 HX2;obtain⟨c0,c1,c2,c3⟩:=qa3 HX2.out.box))
 rw[HFF.out]
 clear c0 c1 c2 c3 hB2 HX
 go_loopg [1,9] (bs.length+1-f) (fun g zi zn wr=>∃k num:Nat,zi=.int .i64 k∧zn=.int .i64 (-(num:Int))∧Hid (bs.length+1≤k+g)∧Hid (f≤k)∧Hid (num≤9223372036854775807)∧Hid (RTh W (inA bs fm d l) wr)∧Hid (InR bs lim k)∧Hid ((k=f∧num=0)∨(f<k∧qcO bs lim 9223372036854775807 (ch.toNat==48) (bs.length+1-k) k num=R)))
 case atStart=>exact⟨f,0,rfl,rfl,by show _≤_;omega,Nat.le_refl _,Nat.zero_le _,HX2,HI,.inl ⟨rfl,rfl⟩⟩
 case round =>
  clear HX2 HI
  obtain⟨k,num,rfl,rfl,hg,hfk,hnm,HX,HI,HP⟩:=hrel
  have hkk:=HI.out.1
  obtain⟨c0,c1,c2,c3⟩:=qa3 HX.out.box
  have cD1:=fun V=>cD V k
  have cH1:=fun V=>cH V k
  have hrk:f<k→R=_:=fun hlt=>by
   rcases HP.out with h|h
   ·omega
   ·exact h.2.symm.trans (qkD bs lim 9223372036854775807 (ch.toNat==48) k num hkk)
  have hk0:k=f→bs[k]? = some ch:=fun h=>by rw[h];exact HCH.out
  cases hck:bs[k]? with
  |none =>
   have HE:Hid (R=.ok (num,k)):=by
    show _=_
    have h1:¬k=f:=fun h=>by rw[hk0 h] at hck;cases hck
    rw[hrk (by have:=hfk.out;omega),hck]
   have HV:Hid (qeS bs lim (sgn false R) (.returned (.tuple #[.agg (thA 3 ((num:Int)) ⟨#[]⟩ qaf qaf),.int .i64 k,.agg (qae (0,0))]))):=qiI HE.out HI.out rfl (by have:=hnm.out;omega) (by have:=hnm.out;omega)
   rw[qfg (qa9 hck)] at cD1
   rw[qa9 hck] at cH1
   clear hrk hk0 hck cD cH cB HP hixf hix
   have hnb:=hnm.out
   go_wp2_with (first
    |(go_at_call 206;refine ck4 (cD1 _) HX.out.next (fun _ h=>h.box) ?_;clear cD1 c0 c1 c2 c3;intro w2 HX2 c0 c1 c2 c3)
    |(go_at_call 113;refine ck4 (cH1 _) HX2.out.next (fun _ h=>h.box) ?_;clear cH1 c0 c1 c2 c3;intro w3 HX3 c0 c1 c2 c3)
    |((with_reducible refine stT 4 110 rfl rfl (W.heap.size+1) (thA 3 ((num:Int)) ⟨#[]⟩ qaf qaf) ?_ ?_ ?_ ?_ ?_);exact rfl;exact rfl;exact HX3.out.th;exact thg)
    |((with_reducible refine stF 6 112 rfl rfl (W.heap.size+2) (0,0) ?_ ?_ ?_ ?_);exact rfl;exact rfl;exact qan HX3.out bwR _))
   have hf:=qao HX3.out bwR (thA 3 ((num:Int)) ⟨#[]⟩ qaf qaf) (0,0)
   refine eoT results173 hf _ rfl rfl rfl rfl ⟨?_,hf.2.2⟩
   exact HV.out
  |some cc =>
   have hixk:=fun V=>qah bs k cc hck V
   have hkb:=ltL hck
   by_cases hp:(k:Int)=lim
   ·have h1:¬k=f:=fun h=>HFL.out (by rw[←h];exact hp)
    have HE:Hid (R=.error (8,(k:Int))):=by
     show _=_
     rw[hrk (by have:=hfk.out;omega),hck]
     simp only[]
     rw[if_pos hp]
    have HV:Hid (qeS bs lim (sgn false R) (.returned (.tuple #[.agg (thA 3 ((num:Int)) ⟨#[]⟩ qaf qaf),.int .i64 k,.agg (qae (0,0))]))):=qmX HE.out hp hkb (by have:=hnm.out;omega) (by have:=hnm.out;omega)
    rw[qfg (qaJ HL.out hck hp)] at cD1
    rw[qaJ HL.out hck hp] at cH1
    clear hrk hk0 hck cD cH cB HP hixf hix hixk hp h1
    have hnb:=hnm.out
    go_wp2_with (first
     |(go_at_call 206;refine ck4 (cD1 _) HX.out.next (fun _ h=>h.box) ?_;clear cD1 c0 c1 c2 c3;intro w2 HX2 c0 c1 c2 c3)
     |(go_at_call 113;refine ck4 (cH1 _) HX2.out.next (fun _ h=>h.box) ?_;clear cH1 c0 c1 c2 c3;intro w3 HX3 c0 c1 c2 c3)
     |((with_reducible refine stT 4 110 rfl rfl (W.heap.size+1) (thA 3 ((num:Int)) ⟨#[]⟩ qaf qaf) ?_ ?_ ?_ ?_ ?_);exact rfl;exact rfl;exact HX3.out.th;exact thg)
     |((with_reducible refine stF 6 112 rfl rfl (W.heap.size+2) (0,0) ?_ ?_ ?_ ?_);exact rfl;exact rfl;exact qan HX3.out bwR _))
    have hf:=qao HX3.out bwR (thA 3 ((num:Int)) ⟨#[]⟩ qaf qaf) (0,0)
    refine eoT results173 hf _ rfl rfl rfl rfl ⟨?_,hf.2.2⟩
    exact HV.out
   ·rw[qdY HL.out HI.out hck hp] at cD1
    rw[qa7 HL.out HI.out hck hp] at cH1
    cases hdg:qaG cc
    ·rw[hdg] at cD1
     have h1:¬k=f:=fun h=>by
      have h2:=hk0 h
      rw[hck] at h2
      injection h2 with h2
      rw[h2,HD.out] at hdg
      cases hdg
     have hR:=hrk (by have:=hfk.out;omega)
     rw[hck] at hR
     simp only[] at hR
     rw[if_neg hp,if_neg (by rw[hdg];decide)] at hR
     by_cases he:cc.toNat=46∨cc.toNat=101∨cc.toNat=69
     ·rw[if_pos he] at hR
      have HV:Hid (qeS bs lim (sgn false R) (.returned (.tuple #[.agg th0,.int .i64 0,.agg (qae (10,(k:Int)))]))):=qff hR
      have cB1:=fun V=>cB V k 10
      rw[qa6 HL.out HI.out hck hp] at cB1
      have hd3:((cc.toNat:Int)==46)=true∨(((cc.toNat:Int)==46)=false∧((cc.toNat:Int)==101)=true)∨(((cc.toNat:Int)==46)=false∧((cc.toNat:Int)==101)=false∧((cc.toNat:Int)==69)=true):=by
       rcases he with h|h|h
       ·left;rw[h];rfl
       ·right;left;rw[h];exact⟨rfl,rfl⟩
       ·right;right;rw[h];exact⟨rfl,rfl,rfl⟩
      clear hrk hk0 hck cD cH cB HP hixf hix hp h1 hR hdg he
      rcases hd3 with h46|⟨h46,h101⟩|⟨h46,h101,h69⟩
      ·go_wp2_with (first
        |(go_at_call 206;refine ck4 (cD1 _) HX.out.next (fun _ h=>h.box) ?_;clear cD1 c0 c1 c2 c3;intro w2 HX2 c0 c1 c2 c3)
        |(go_at_call 113;refine ck4 (cH1 _) HX2.out.next (fun _ h=>h.box) ?_;clear cH1 c0 c1 c2 c3;intro w3 HX3 c0 c1 c2 c3)
        |(go_at_call 71;refine ck4 (cB1 _) HX3.out.next (fun _ h=>h.box) ?_;clear cB1 c0 c1 c2 c3;intro w4 HX4 c0 c1 c2 c3)
        |((with_reducible refine stT 4 101 rfl rfl (W.heap.size+1) (th0) ?_ ?_ ?_ ?_ ?_);exact rfl;exact rfl;exact HX4.out.th;exact thg)
        |((with_reducible refine stF 6 104 rfl rfl (W.heap.size+2) (10,(k:Int)) ?_ ?_ ?_ ?_);exact rfl;exact rfl;exact qan HX4.out bwR _))
       have hf:=qao HX4.out bwR (th0) (10,(k:Int))
       refine eoT results173 hf _ rfl rfl rfl rfl ⟨?_,hf.2.2⟩
       exact HV.out
      ·go_wp2_with (first
        |(go_at_call 206;refine ck4 (cD1 _) HX.out.next (fun _ h=>h.box) ?_;clear cD1 c0 c1 c2 c3;intro w2 HX2 c0 c1 c2 c3)
        |(go_at_call 113;refine ck4 (cH1 _) HX2.out.next (fun _ h=>h.box) ?_;clear cH1 c0 c1 c2 c3;intro w3 HX3 c0 c1 c2 c3)
        |(go_at_call 71;refine ck4 (cB1 _) HX3.out.next (fun _ h=>h.box) ?_;clear cB1 c0 c1 c2 c3;intro w4 HX4 c0 c1 c2 c3)
        |((with_reducible refine stT 4 101 rfl rfl (W.heap.size+1) (th0) ?_ ?_ ?_ ?_ ?_);exact rfl;exact rfl;exact HX4.out.th;exact thg)
        |((with_reducible refine stF 6 104 rfl rfl (W.heap.size+2) (10,(k:Int)) ?_ ?_ ?_ ?_);exact rfl;exact rfl;exact qan HX4.out bwR _))
       have hf:=qao HX4.out bwR (th0) (10,(k:Int))
       refine eoT results173 hf _ rfl rfl rfl rfl ⟨?_,hf.2.2⟩
       exact HV.out
      ·go_wp2_with (first
        |(go_at_call 206;refine ck4 (cD1 _) HX.out.next (fun _ h=>h.box) ?_;clear cD1 c0 c1 c2 c3;intro w2 HX2 c0 c1 c2 c3)
        |(go_at_call 113;refine ck4 (cH1 _) HX2.out.next (fun _ h=>h.box) ?_;clear cH1 c0 c1 c2 c3;intro w3 HX3 c0 c1 c2 c3)
        |(go_at_call 71;refine ck4 (cB1 _) HX3.out.next (fun _ h=>h.box) ?_;clear cB1 c0 c1 c2 c3;intro w4 HX4 c0 c1 c2 c3)
        |((with_reducible refine stT 4 101 rfl rfl (W.heap.size+1) (th0) ?_ ?_ ?_ ?_ ?_);exact rfl;exact rfl;exact HX4.out.th;exact thg)
        |((with_reducible refine stF 6 104 rfl rfl (W.heap.size+2) (10,(k:Int)) ?_ ?_ ?_ ?_);exact rfl;exact rfl;exact qan HX4.out bwR _))
       have hf:=qao HX4.out bwR (th0) (10,(k:Int))
       refine eoT results173 hf _ rfl rfl rfl rfl ⟨?_,hf.2.2⟩
       exact HV.out
     ·rw[if_neg he] at hR
      have HV:Hid (qeS bs lim (sgn false R) (.returned (.tuple #[.agg (thA 3 ((num:Int)) ⟨#[]⟩ qaf qaf),.int .i64 k,.agg (qae (0,0))]))):=qiI hR HI.out rfl (by have:=hnm.out;omega) (by have:=hnm.out;omega)
      have h46:((cc.toNat:Int)==46)=false:=by simp;omega
      have h101:((cc.toNat:Int)==101)=false:=by simp;omega
      have h69:((cc.toNat:Int)==69)=false:=by simp;omega
      clear hrk hk0 hck cD cH cB HP hixf hix hp h1 hR hdg he
      have hnb:=hnm.out
      go_wp2_with (first
       |(go_at_call 206;refine ck4 (cD1 _) HX.out.next (fun _ h=>h.box) ?_;clear cD1 c0 c1 c2 c3;intro w2 HX2 c0 c1 c2 c3)
       |(go_at_call 113;refine ck4 (cH1 _) HX2.out.next (fun _ h=>h.box) ?_;clear cH1 c0 c1 c2 c3;intro w3 HX3 c0 c1 c2 c3)
       |((with_reducible refine stT 4 110 rfl rfl (W.heap.size+1) (thA 3 ((num:Int)) ⟨#[]⟩ qaf qaf) ?_ ?_ ?_ ?_ ?_);exact rfl;exact rfl;exact HX3.out.th;exact thg)
       |((with_reducible refine stF 6 112 rfl rfl (W.heap.size+2) (0,0) ?_ ?_ ?_ ?_);exact rfl;exact rfl;exact qan HX3.out bwR _))
      have hf:=qao HX3.out bwR (thA 3 ((num:Int)) ⟨#[]⟩ qaf qaf) (0,0)
      refine eoT results173 hf _ rfl rfl rfl rfl ⟨?_,hf.2.2⟩
      exact HV.out
    ·rw[hdg] at cD1
     unfold qaG at hdg
     obtain⟨g1,g2⟩:=of_decide_eq_true hdg
     have hfk2:=hfk.out
     have hnm2:=hnm.out
     have hov:=qmW num (cc.toNat-48) (by omega)
     rw[show((cc.toNat-48:Nat):Int)=(cc.toNat:Int)-48 by omega] at hov
     by_cases hze:f<k∧(ch.toNat==48)=true
     ·have hlt:(f:Int)<(k:Int):=by omega
      have hz:((ch.toNat:Int)==48)=true:=by have:=hze.2;simp at this ⊢;omega
      have hR:=hrk hze.1
      rw[hck] at hR
      simp only[] at hR
      rw[if_neg hp,if_pos (by unfold qaG;exact hdg),if_pos hze.2] at hR
      have HV:Hid (qeS bs lim (sgn false R) (.returned (.tuple #[.agg th0,.int .i64 0,.agg (qae (9,(k:Int)))]))):=qff hR
      have cB1:=fun V=>cB V k 9
      rw[qa6 HL.out HI.out hck hp] at cB1
      clear hrk hk0 hck cD cH cB HP hix hp hR hdg hze hov cH1 HR
      go_wp2_with (first
       |(go_at_call 206;refine ck4 (cD1 _) HX.out.next (fun _ h=>h.box) ?_;clear cD1 c0 c1 c2 c3;intro w2 HX2 c0 c1 c2 c3)
       |(go_at_call 71;refine ck4 (cB1 _) HX2.out.next (fun _ h=>h.box) ?_;clear cB1 c0 c1 c2 c3;intro w4 HX4 c0 c1 c2 c3)
       |((with_reducible refine stT 4 47 rfl rfl (W.heap.size+1) (th0) ?_ ?_ ?_ ?_ ?_);exact rfl;exact rfl;exact HX4.out.th;exact thg)
       |((with_reducible refine stF 6 50 rfl rfl (W.heap.size+2) (9,(k:Int)) ?_ ?_ ?_ ?_);exact rfl;exact rfl;exact qan HX4.out bwR _))
      have hf:=qao HX4.out bwR (th0) (9,(k:Int))
      refine eoT results173 hf _ rfl rfl rfl rfl ⟨?_,hf.2.2⟩
      exact HV.out
     ·have hcase:(decide ((f:Int)<(k:Int))=false∧(k:Int)≤(f:Int))∨((f:Int)<(k:Int)∧((ch.toNat:Int)==48)=false):=by
       by_cases h:f<k
       ·refine .inr ⟨by omega,?_⟩
        have h2:¬(ch.toNat==48)=true:=fun h2=>hze ⟨h,h2⟩
        simp at h2 ⊢
        omega
       ·exact .inl ⟨by simp;omega,by omega⟩
      have hnum:k=f→num=0:=fun h=>by
       rcases HP.out with h2|h2
       ·exact h2.2
       ·omega
      by_cases hom:(9223372036854775807-(cc.toNat-48)) / 10<num
      ·have hfk3:f<k:=by
        rcases Nat.lt_or_ge f k with h|h
        ·exact h
        ·have:=hnum (by omega);omega
       have hR:=hrk hfk3
       rw[hck] at hR
       simp only[] at hR
       rw[if_neg hp,if_pos (by unfold qaG;exact hdg),if_neg (fun h=>hze ⟨hfk3,h⟩),if_pos hom] at hR
       have HV:Hid (qeS bs lim (sgn false R) (.returned (.tuple #[.agg th0,.int .i64 0,.agg (qae (10,(k:Int)))]))):=qff hR
       have cB1:=fun V=>cB V k 10
       rw[qa6 HL.out HI.out hck hp] at cB1
       have hlt:(f:Int)<(k:Int):=by omega
       have hz:((ch.toNat:Int)==48)=false:=by
        rcases hcase with h|h
        ·have:=h.2;omega
        ·exact h.2
       have hA2 : -(num:Int)<(-9223372036854775808+((cc.toNat:Int)-48)).tdiv 10∨(¬-(num:Int)<(-9223372036854775808+((cc.toNat:Int)-48)).tdiv 10∧(-(num:Int)*10-((cc.toNat:Int)-48) == -9223372036854775808)=true ∧ -9223372036854775808 ≤ -(num:Int)*10 ∧ -9223372036854775808 ≤ -(num:Int)*10-((cc.toNat:Int)-48)):=by
        by_cases h : -(num:Int)<(-9223372036854775808+((cc.toNat:Int)-48)).tdiv 10
        ·exact .inl h
        ·have h2:¬(9223372036854775808-(cc.toNat-48)) / 10<num:=fun h2=>h (hov.2 h2)
         refine .inr ⟨h,?_,by omega,by omega⟩
         simp
         omega
       clear hrk hk0 hck cD cH cB HP hix hp hR hdg hze hcase hnum hom hov cH1 HR
       rcases hA2 with hA|⟨hA,hEq,hb1,hb2⟩
       ·go_wp2_with (first
         |(go_at_call 206;refine ck4 (cD1 _) HX.out.next (fun _ h=>h.box) ?_;clear cD1 c0 c1 c2 c3;intro w2 HX2 c0 c1 c2 c3)
         |(go_at_call 71;refine ck4 (cB1 _) HX2.out.next (fun _ h=>h.box) ?_;clear cB1 c0 c1 c2 c3;intro w4 HX4 c0 c1 c2 c3)
         |((with_reducible refine stT 4 67 rfl rfl (W.heap.size+1) (th0) ?_ ?_ ?_ ?_ ?_);exact rfl;exact rfl;exact HX4.out.th;exact thg)
         |((with_reducible refine stF 6 70 rfl rfl (W.heap.size+2) (10,(k:Int)) ?_ ?_ ?_ ?_);exact rfl;exact rfl;exact qan HX4.out bwR _))
        have hf:=qao HX4.out bwR (th0) (10,(k:Int))
        refine eoT results173 hf _ rfl rfl rfl rfl ⟨?_,hf.2.2⟩
        exact HV.out
       ·go_wp2_with (first
         |(go_at_call 206;refine ck4 (cD1 _) HX.out.next (fun _ h=>h.box) ?_;clear cD1 c0 c1 c2 c3;intro w2 HX2 c0 c1 c2 c3)
         |(go_at_call 71;refine ck4 (cB1 _) HX2.out.next (fun _ h=>h.box) ?_;clear cB1 c0 c1 c2 c3;intro w4 HX4 c0 c1 c2 c3)
         |((with_reducible refine stT 4 67 rfl rfl (W.heap.size+1) (th0) ?_ ?_ ?_ ?_ ?_);exact rfl;exact rfl;exact HX4.out.th;exact thg)
         |((with_reducible refine stF 6 70 rfl rfl (W.heap.size+2) (10,(k:Int)) ?_ ?_ ?_ ?_);exact rfl;exact rfl;exact qan HX4.out bwR _))
        have hf:=qao HX4.out bwR (th0) (10,(k:Int))
        refine eoT results173 hf _ rfl rfl rfl rfl ⟨?_,hf.2.2⟩
        exact HV.out
      ·have HN:Hid (qcO bs lim 9223372036854775807 (ch.toNat==48) (bs.length+1-(k+1)) (k+1) (num*10+(cc.toNat-48))=R):=by
        show _=_
        by_cases h:k=f
        ·have h2:=hk0 h
         rw[hck] at h2
         injection h2 with h2
         rw[hnum h,h2,h,Nat.zero_mul,Nat.zero_add]
         exact HR.out
        ·have hR:=hrk (by omega)
         rw[hck] at hR
         simp only[] at hR
         rw[if_neg hp,if_pos (by unfold qaG;exact hdg),if_neg (fun h2=>hze ⟨by omega,h2⟩),if_neg hom] at hR
         exact hR.symm
       have hA:¬-(num:Int)<(-9223372036854775808+((cc.toNat:Int)-48)).tdiv 10:=fun h=>by have:=hov.1 h;omega
       have hb1 : -9223372036854775808 ≤ -(num:Int)*10:=by omega
       have hb2 : -9223372036854775808 ≤ -(num:Int)*10-((cc.toNat:Int)-48):=by omega
       have hEq:(-(num:Int)*10-((cc.toNat:Int)-48) == -9223372036854775808)=false:=by simp;omega
       have HNX:Hid (InR bs lim (k+1)):=qav HI.out hck hp
       have HMX:Hid (num*10+(cc.toNat-48)≤9223372036854775807):=by show _≤_;omega
       clear hrk hk0 hck cD cH cB HP hix hp hdg hze hnum hom hov cH1 HR
       rcases hcase with ⟨hgt,hgt2⟩|⟨hlt,hz⟩
       ·go_wp2_with (first
         |(go_at_call 206;refine ck4 (cD1 _) HX.out.next (fun _ h=>h.box) ?_;clear cD1 c0 c1 c2 c3;intro w2 HX2 c0 c1 c2 c3))
        obtain⟨gg,hgg⟩:∃gg,gk=gg+1:=⟨gk-1,by have:=hg.out;omega⟩
        subst hgg
        go_roundg gg
        case measure=>omega
        case rel=>exact⟨k+1,num*10+(cc.toNat-48),by go_num,congrArg (Value.int .i64) (by omega),by show _≤_;have:=hg.out;omega,by show _≤_;omega,HMX,HX2,HNX,.inr ⟨by omega,HN.out⟩⟩
       ·go_wp2_with (first
         |(go_at_call 206;refine ck4 (cD1 _) HX.out.next (fun _ h=>h.box) ?_;clear cD1 c0 c1 c2 c3;intro w2 HX2 c0 c1 c2 c3))
        obtain⟨gg,hgg⟩:∃gg,gk=gg+1:=⟨gk-1,by have:=hg.out;omega⟩
        subst hgg
        go_roundg gg
        case measure=>omega
        case rel=>exact⟨k+1,num*10+(cc.toNat-48),by go_num,congrArg (Value.int .i64) (by omega),by show _≤_;have:=hg.out;omega,by show _≤_;omega,HMX,HX2,HNX,.inr ⟨by omega,HN.out⟩⟩
end
end Go.Proofs.YtllcbnfmihfaaaaGreatDoor
