import Derived.Test.YtllcbnfmihfaaaaGreatDoorTq14
set_option maxRecDepth 100000
set_option maxHeartbeats 8000000
namespace Go.Proofs.YtllcbnfmihfaaaaGreatDoor
open Go.Proofs.Tryz
variable {bs:List UInt8}{l lim z:Int}{m:Bool}{R:Except (Int×Int) (Nat×Nat)}{k num p:Nat}
section
open Go.RowKit Go.Lib
theorem q4o (W:World)(c:UInt8)(h1:0≤(c.toNat:Int))(h2:(c.toNat:Int)≤127):Calls prog 112 #[.int .u8 c.toNat] W fun e W'=>e=.returned (.tuple #[.int .u8 0,.int .u8 0,.int .i64 1])∧W'=W:=by
 have e224:=nec (c:=c) 224 (by omega);have e237:=nec (c:=c) 237 (by omega);have e240:=nec (c:=c) 240 (by omega);have e244:=nec (c:=c) 244 (by omega);go_enter func112,ntmps112;go_wp2;refine bodyPost_ret (results_tmp3 results112 _ _ _) rfl ⟨rfl,rfl⟩
theorem q1A (W:World)(c:UInt8)(h1:128≤(c.toNat:Int))(h2:(c.toNat:Int)≤193):Calls prog 112 #[.int .u8 c.toNat] W fun e W'=>e=.returned (.tuple #[.int .u8 0,.int .u8 0,.int .i64 0])∧W'=W:=by
 have e224:=nec (c:=c) 224 (by omega);have e237:=nec (c:=c) 237 (by omega);have e240:=nec (c:=c) 240 (by omega);have e244:=nec (c:=c) 244 (by omega);go_enter func112,ntmps112;go_wp2;refine bodyPost_ret (results_tmp3 results112 _ _ _) rfl ⟨rfl,rfl⟩
theorem q1V (W:World)(c:UInt8)(h1:194≤(c.toNat:Int))(h2:(c.toNat:Int)≤223):Calls prog 112 #[.int .u8 c.toNat] W fun e W'=>e=.returned (.tuple #[.int .u8 128,.int .u8 191,.int .i64 2])∧W'=W:=by
 have e224:=nec (c:=c) 224 (by omega);have e237:=nec (c:=c) 237 (by omega);have e240:=nec (c:=c) 240 (by omega);have e244:=nec (c:=c) 244 (by omega);go_enter func112,ntmps112;go_wp2;refine bodyPost_ret (results_tmp3 results112 _ _ _) rfl ⟨rfl,rfl⟩
theorem q1J (W:World)(c:UInt8)(h1:224≤(c.toNat:Int))(h2:(c.toNat:Int)≤224):Calls prog 112 #[.int .u8 c.toNat] W fun e W'=>e=.returned (.tuple #[.int .u8 160,.int .u8 191,.int .i64 3])∧W'=W:=by
 have e224:((c.toNat:Int)==224)=true:=by simp;omega
 have e237:=nec (c:=c) 237 (by omega);have e240:=nec (c:=c) 240 (by omega);have e244:=nec (c:=c) 244 (by omega);go_enter func112,ntmps112;go_wp2;refine bodyPost_ret (results_tmp3 results112 _ _ _) rfl ⟨rfl,rfl⟩
theorem q1F (W:World)(c:UInt8)(h1:225≤(c.toNat:Int))(h2:(c.toNat:Int)≤236):Calls prog 112 #[.int .u8 c.toNat] W fun e W'=>e=.returned (.tuple #[.int .u8 128,.int .u8 191,.int .i64 3])∧W'=W:=by
 have e224:=nec (c:=c) 224 (by omega);have e237:=nec (c:=c) 237 (by omega);have e240:=nec (c:=c) 240 (by omega);have e244:=nec (c:=c) 244 (by omega);go_enter func112,ntmps112;go_wp2;refine bodyPost_ret (results_tmp3 results112 _ _ _) rfl ⟨rfl,rfl⟩
theorem q2o (W:World)(c:UInt8)(h1:237≤(c.toNat:Int))(h2:(c.toNat:Int)≤237):Calls prog 112 #[.int .u8 c.toNat] W fun e W'=>e=.returned (.tuple #[.int .u8 128,.int .u8 159,.int .i64 3])∧W'=W:=by
 have e224:=nec (c:=c) 224 (by omega);have e237:((c.toNat:Int)==237)=true:=by simp;omega
 have e240:=nec (c:=c) 240 (by omega);have e244:=nec (c:=c) 244 (by omega);go_enter func112,ntmps112;go_wp2;refine bodyPost_ret (results_tmp3 results112 _ _ _) rfl ⟨rfl,rfl⟩
theorem q1O (W:World)(c:UInt8)(h1:238≤(c.toNat:Int))(h2:(c.toNat:Int)≤239):Calls prog 112 #[.int .u8 c.toNat] W fun e W'=>e=.returned (.tuple #[.int .u8 128,.int .u8 191,.int .i64 3])∧W'=W:=by
 have e224:=nec (c:=c) 224 (by omega);have e237:=nec (c:=c) 237 (by omega);have e240:=nec (c:=c) 240 (by omega);have e244:=nec (c:=c) 244 (by omega);go_enter func112,ntmps112;go_wp2;refine bodyPost_ret (results_tmp3 results112 _ _ _) rfl ⟨rfl,rfl⟩
theorem q1M (W:World)(c:UInt8)(h1:240≤(c.toNat:Int))(h2:(c.toNat:Int)≤240):Calls prog 112 #[.int .u8 c.toNat] W fun e W'=>e=.returned (.tuple #[.int .u8 144,.int .u8 191,.int .i64 4])∧W'=W:=by
 have e224:=nec (c:=c) 224 (by omega);have e237:=nec (c:=c) 237 (by omega);have e240:((c.toNat:Int)==240)=true:=by simp;omega
 have e244:=nec (c:=c) 244 (by omega);go_enter func112,ntmps112;go_wp2;refine bodyPost_ret (results_tmp3 results112 _ _ _) rfl ⟨rfl,rfl⟩
theorem q1C (W:World)(c:UInt8)(h1:241≤(c.toNat:Int))(h2:(c.toNat:Int)≤243):Calls prog 112 #[.int .u8 c.toNat] W fun e W'=>e=.returned (.tuple #[.int .u8 128,.int .u8 191,.int .i64 4])∧W'=W:=by
 have e224:=nec (c:=c) 224 (by omega);have e237:=nec (c:=c) 237 (by omega);have e240:=nec (c:=c) 240 (by omega);have e244:=nec (c:=c) 244 (by omega);go_enter func112,ntmps112;go_wp2;refine bodyPost_ret (results_tmp3 results112 _ _ _) rfl ⟨rfl,rfl⟩
theorem q2i (W:World)(c:UInt8)(h1:244≤(c.toNat:Int))(h2:(c.toNat:Int)≤244):Calls prog 112 #[.int .u8 c.toNat] W fun e W'=>e=.returned (.tuple #[.int .u8 128,.int .u8 143,.int .i64 4])∧W'=W:=by
 have e224:=nec (c:=c) 224 (by omega);have e237:=nec (c:=c) 237 (by omega);have e240:=nec (c:=c) 240 (by omega);have e244:((c.toNat:Int)==244)=true:=by simp;omega
 go_enter func112,ntmps112;go_wp2;refine bodyPost_ret (results_tmp3 results112 _ _ _) rfl ⟨rfl,rfl⟩
theorem q1H (W:World)(c:UInt8)(h1:245≤(c.toNat:Int))(h2:(c.toNat:Int)≤255):Calls prog 112 #[.int .u8 c.toNat] W fun e W'=>e=.returned (.tuple #[.int .u8 0,.int .u8 0,.int .i64 0])∧W'=W:=by
 have e224:=nec (c:=c) 224 (by omega);have e237:=nec (c:=c) 237 (by omega);have e240:=nec (c:=c) 240 (by omega);have e244:=nec (c:=c) 244 (by omega);go_enter func112,ntmps112;go_wp2;refine bodyPost_ret (results_tmp3 results112 _ _ _) rfl ⟨rfl,rfl⟩
theorem q2n (W:World)(c:UInt8):Calls prog 112 #[.int .u8 c.toNat] W fun e W'=>e=.returned (.tuple #[.int .u8 (qxZ c),.int .u8 (qyd c),.int .i64 (qxU c)])∧W'=W:=by
 have h:=c.toNat_lt;by_cases h0:c.toNat≤127
 ·have:=q4o W c (by omega) (by omega);rw[show qxZ c=0 by unfold qxZ;repeat (first|rw[if_pos (by omega)]|rw[if_neg (by omega)]),show qyd c=0 by unfold qyd;repeat (first|rw[if_pos (by omega)]|rw[if_neg (by omega)]),show qxU c=1 by unfold qxU;repeat (first|rw[if_pos (by omega)]|rw[if_neg (by omega)])];exact this
 by_cases h128:c.toNat≤193
 ·have:=q1A W c (by omega) (by omega);rw[show qxZ c=0 by unfold qxZ;repeat (first|rw[if_pos (by omega)]|rw[if_neg (by omega)]),show qyd c=0 by unfold qyd;repeat (first|rw[if_pos (by omega)]|rw[if_neg (by omega)]),show qxU c=0 by unfold qxU;repeat (first|rw[if_pos (by omega)]|rw[if_neg (by omega)])];exact this
 by_cases h194:c.toNat≤223
 ·have:=q1V W c (by omega) (by omega);rw[show qxZ c=128 by unfold qxZ;repeat (first|rw[if_pos (by omega)]|rw[if_neg (by omega)]),show qyd c=191 by unfold qyd;repeat (first|rw[if_pos (by omega)]|rw[if_neg (by omega)]),show qxU c=2 by unfold qxU;repeat (first|rw[if_pos (by omega)]|rw[if_neg (by omega)])];exact this
 by_cases h224:c.toNat≤224
 ·have:=q1J W c (by omega) (by omega);rw[show qxZ c=160 by unfold qxZ;repeat (first|rw[if_pos (by omega)]|rw[if_neg (by omega)]),show qyd c=191 by unfold qyd;repeat (first|rw[if_pos (by omega)]|rw[if_neg (by omega)]),show qxU c=3 by unfold qxU;repeat (first|rw[if_pos (by omega)]|rw[if_neg (by omega)])];exact this
 by_cases h225:c.toNat≤236
 ·have:=q1F W c (by omega) (by omega);rw[show qxZ c=128 by unfold qxZ;repeat (first|rw[if_pos (by omega)]|rw[if_neg (by omega)]),show qyd c=191 by unfold qyd;repeat (first|rw[if_pos (by omega)]|rw[if_neg (by omega)]),show qxU c=3 by unfold qxU;repeat (first|rw[if_pos (by omega)]|rw[if_neg (by omega)])];exact this
 by_cases h237:c.toNat≤237
 ·have:=q2o W c (by omega) (by omega);rw[show qxZ c=128 by unfold qxZ;repeat (first|rw[if_pos (by omega)]|rw[if_neg (by omega)]),show qyd c=159 by unfold qyd;repeat (first|rw[if_pos (by omega)]|rw[if_neg (by omega)]),show qxU c=3 by unfold qxU;repeat (first|rw[if_pos (by omega)]|rw[if_neg (by omega)])];exact this
 by_cases h238:c.toNat≤239
 ·have:=q1O W c (by omega) (by omega);rw[show qxZ c=128 by unfold qxZ;repeat (first|rw[if_pos (by omega)]|rw[if_neg (by omega)]),show qyd c=191 by unfold qyd;repeat (first|rw[if_pos (by omega)]|rw[if_neg (by omega)]),show qxU c=3 by unfold qxU;repeat (first|rw[if_pos (by omega)]|rw[if_neg (by omega)])];exact this
 by_cases h240:c.toNat≤240
 ·have:=q1M W c (by omega) (by omega);rw[show qxZ c=144 by unfold qxZ;repeat (first|rw[if_pos (by omega)]|rw[if_neg (by omega)]),show qyd c=191 by unfold qyd;repeat (first|rw[if_pos (by omega)]|rw[if_neg (by omega)]),show qxU c=4 by unfold qxU;repeat (first|rw[if_pos (by omega)]|rw[if_neg (by omega)])];exact this
 by_cases h241:c.toNat≤243
 ·have:=q1C W c (by omega) (by omega);rw[show qxZ c=128 by unfold qxZ;repeat (first|rw[if_pos (by omega)]|rw[if_neg (by omega)]),show qyd c=191 by unfold qyd;repeat (first|rw[if_pos (by omega)]|rw[if_neg (by omega)]),show qxU c=4 by unfold qxU;repeat (first|rw[if_pos (by omega)]|rw[if_neg (by omega)])];exact this
 by_cases h244:c.toNat≤244
 ·have:=q2i W c (by omega) (by omega);rw[show qxZ c=128 by unfold qxZ;repeat (first|rw[if_pos (by omega)]|rw[if_neg (by omega)]),show qyd c=143 by unfold qyd;repeat (first|rw[if_pos (by omega)]|rw[if_neg (by omega)]),show qxU c=4 by unfold qxU;repeat (first|rw[if_pos (by omega)]|rw[if_neg (by omega)])];exact this
 have:=q1H W c (by omega) (by omega);rw[show qxZ c=0 by unfold qxZ;repeat (first|rw[if_pos (by omega)]|rw[if_neg (by omega)]),show qyd c=0 by unfold qyd;repeat (first|rw[if_pos (by omega)]|rw[if_neg (by omega)]),show qxU c=0 by unfold qxU;repeat (first|rw[if_pos (by omega)]|rw[if_neg (by omega)])];exact this
theorem q6z (c:UInt8):qxZ c≤255∧qyd c≤255∧qxU c≤4:=by
 refine⟨?_,?_,(qyw c).2.2.2⟩
 ·unfold qxZ
  repeat' split
  all_goals omega
 unfold qyd
 repeat' split
 all_goals omega
def qiM (r:Nat×Bool):Value:=.tuple #[.int .i64 r.1,.bool r.2]
theorem qyT (W:World)(bs:List UInt8)(p n:Nat)(ch:UInt8)(hc:bs[p]? = some ch)(hb:bs.length≤200000000)(hn:n≤bs.length):Calls prog 68 #[.string ⟨bs.toArray⟩,.int .i64 p,.int .i64 n] W fun e W'=>e=.returned (qiM (qgB bs n p ch))∧W'=W:=by
 obtain⟨R,HR⟩:∃R,Hid (qgB bs n p ch=R):=⟨_,show _=_ from rfl⟩
 rw[HR.out];have hpl:=ltL hc;have hix:=fun V=>qxH bs p ch hc V;obtain⟨h1,h2,h3⟩:=q6z ch;have cS:=q2n W ch;have hr:=HR.out;unfold qgB at hr;clear hc HR;obtain⟨lo,hlo⟩:∃lo,lo=qxZ ch:=⟨_,rfl⟩
 obtain⟨hi,hhi⟩:∃hi,hi=qyd ch:=⟨_,rfl⟩
 obtain⟨kk,hkk⟩:∃kk,kk=qxU ch:=⟨_,rfl⟩
 rw[←hlo,←hhi,←hkk] at cS;rw[←hkk] at hr h3;rw[←hlo] at h1;rw[←hhi] at h2;have HLO:=qaa hlo;have HHI:=qaa hhi;have HKK:=qaa hkk;clear hlo hhi hkk;by_cases hk0:kk=0
 ·rw[if_pos hk0] at hr;have HE:=qaa hr.symm;have hz:((kk:Int)==0)=true:=by rw[hk0];rfl
  clear hr hk0;go_enter func68,ntmps68
  go_wp2_with (first
   |(go_at_call 112;refine cS.mono ?_;clear cS;rintro e w2 ⟨rfl,rfl⟩))
  go_ret2
  rw[HE.out];exact⟨rfl,rfl⟩
 rw[if_neg hk0] at hr;have hz:((kk:Int)==0)=false:=by simp;omega
 have HR:=qaa hr;clear hr;go_enter func68,ntmps68
 go_wp2_with (first
  |(go_at_call 112;refine cS.mono ?_;clear cS;rintro e w2 ⟨rfl,rfl⟩))
 clear hz hix
 go_loopg [11] (kk-1) (fun g z wr=>wr=w2∧∃j:Nat,z=.int .i64 j∧Hid (j+g=kk)∧Hid (1≤j)∧Hid (q2Q bs n p ch g j=R))
 case atStart=>exact⟨rfl,1,rfl,by show _=_;omega,Nat.le_refl _,HR⟩
 case round =>
  clear HR;obtain⟨rfl,j,rfl,hg,hj,HR⟩:=hrel;have hr:=HR.out
  cases gk with
  |zero =>
   rw[q2Q] at hr;have HE:Hid (R=(kk,true)):=by show _=_;rw[←hr,HKK.out]
   have hlt:¬(j:Int)<(kk:Int):=by have:=hg.out;omega
   clear hr HR hg;go_wp2
   go_ret2
   rw[HE.out];exact⟨rfl,rfl⟩
  |succ g =>
   rw[q2Q] at hr;have hlt:(j:Int)<(kk:Int):=by have:=hg.out;omega
   by_cases hnj:n≤p+j
   ·rw[if_pos hnj] at hr;have HE:=qaa hr.symm;have hnz:(n:Int)≤(p:Int)+(j:Int):=by omega
    clear hr HR hg hnj;go_wp2
    go_ret2
    rw[HE.out];exact⟨rfl,rfl⟩
   rw[if_neg hnj] at hr;have hnz:¬(n:Int)≤(p:Int)+(j:Int):=by omega
   have hpj:p+j<bs.length:=by omega
   obtain⟨cc,hcc⟩:∃cc,cc=bs[p+j]:=⟨_,rfl⟩
   have hcj:bs[p+j]? = some cc:=by rw[hcc];exact List.getElem?_eq_getElem hpj
   have hixj:=fun V=>qxH bs (p+j) cc hcj V;rw[show((p+j:Nat):Int)=(p:Int)+(j:Int) by omega] at hixj;rw[hcj] at hr;simp only[] at hr;have hc255:=cc.toNat_lt;by_cases hj1:j=1
   ·have hs:=q2l ch cc;rw[←HLO.out,←HHI.out] at hs;have e1:((j:Int)==1)=true:=by rw[hj1];rfl
    have e2:decide (1<(j:Int))=false:=by rw[hj1];rfl
    rw[hj1] at hr;by_cases hb1:cc.toNat<lo
    ·rw[if_pos (hs.2 (.inl hb1))] at hr;have HE:Hid (R=(j,false)):=by show _=_;rw[←hr,hj1]
     have g1:(cc.toNat:Int)<(lo:Int):=by omega
     clear hr HR hg hj1 hs hcc hcj hnj hb1;go_wp2
     go_ret2
     rw[HE.out];exact⟨rfl,rfl⟩
    by_cases hb2:hi<cc.toNat
    ·rw[if_pos (hs.2 (.inr hb2))] at hr;have HE:Hid (R=(j,false)):=by show _=_;rw[←hr,hj1]
     have g1:decide ((cc.toNat:Int)<(lo:Int))=false:=by simp;omega
     have g2:(hi:Int)<(cc.toNat:Int):=by omega
     have q1:lo≤cc.toNat:=by omega
     clear hr HR hg hj1 hs hcc hcj hnj hb1 hb2;go_wp2
     go_ret2
     rw[HE.out];exact⟨rfl,rfl⟩
    rw[if_neg (fun h=>by have:=hs.1 h;omega)] at hr;have HN:Hid (q2Q bs n p ch g (j+1)=R):=by show _=_;rw[hj1];exact hr
    have g1:decide ((cc.toNat:Int)<(lo:Int))=false:=by simp;omega
    have g2:decide ((hi:Int)<(cc.toNat:Int))=false:=by simp;omega
    have q1:lo≤cc.toNat:=by omega
    have q2:cc.toNat≤hi:=by omega
    clear hr HR hj1 hs hcc hcj hnj hb1 hb2;go_wp2;go_roundg g
    case measure=>omega
    case rel=>exact⟨rfl,j+1,by go_num,by show _=_;have:=hg.out;omega,by show _≤_;omega,HN⟩
   have hjm:1<j:=by have:=hj.out;omega
   have hs:=qz0 ch cc j hjm;have e1:((j:Int)==1)=false:=by simp;omega
   have e2:1<(j:Int):=by omega
   by_cases hb1:cc.toNat<128
   ·rw[if_pos (hs.2 (.inl hb1))] at hr;have HE:=qaa hr.symm;have g1:(cc.toNat:Int)<128:=by omega
    clear hr HR hg hj1 hs hcc hcj hnj hb1 hjm;go_wp2
    go_ret2
    rw[HE.out];exact⟨rfl,rfl⟩
   by_cases hb2:191<cc.toNat
   ·rw[if_pos (hs.2 (.inr hb2))] at hr;have HE:=qaa hr.symm;have g1:decide ((cc.toNat:Int)<128)=false:=by simp;omega
    have g2:191<(cc.toNat:Int):=by omega
    clear hr HR hg hj1 hs hcc hcj hnj hb1 hb2 hjm;go_wp2
    go_ret2
    rw[HE.out];exact⟨rfl,rfl⟩
   rw[if_neg (fun h=>by have:=hs.1 h;omega)] at hr;have HN:=qaa hr;have g1:decide ((cc.toNat:Int)<128)=false:=by simp;omega
   have g2:decide (191<(cc.toNat:Int))=false:=by simp;omega
   clear hr HR hj1 hs hcc hcj hnj hb1 hb2 hjm;go_wp2;go_roundg g
   case measure=>omega
   case rel=>exact⟨rfl,j+1,by go_num,by show _=_;have:=hg.out;omega,by show _≤_;omega,HN⟩
end
section
open Go.RowKit
def sgn (m:Bool)(r:Except (Int×Int) (Nat×Nat)):Except (Int×Int) (Int×Nat):=match r with
 |.ok (x,p)=>.ok (if m=true then -(x:Int) else (x:Int),p)
 |.error e=>.error e
def q2c (bs:List UInt8)(lim:Int)(r:Except (Int×Int) (Int×Nat))(e:Ending):Prop:=∃r',qy8 bs lim r r'∧(∀z q,r'=.ok (z,q)→InR bs lim q ∧ -9223372036854775808≤z∧z≤9223372036854775807)∧q7e r' e
theorem q3Y {f:Int×Int}(h:R=.error f):q2c bs lim (sgn m R) (.returned (.tuple #[.agg th0,.int .i64 0,.agg (qqp f)])):=⟨.error f,.inl (by rw[h];rfl),(fun z q e=>by cases e),rfl⟩
theorem q5t (h:R=.ok (num,k))(hi:InR bs lim k)(hz:z=if m=true then -(num:Int) else (num:Int))(h1 : -9223372036854775808≤z)(h2:z≤9223372036854775807):q2c bs lim (sgn m R) (.returned (.tuple #[.agg (thA 3 z ⟨#[]⟩ qxE qxE),.int .i64 k,.agg (qqp (0,0))])) :=
 ⟨.ok (z,k),.inl (by rw[h,hz];rfl),(fun z' q e=>by injection e with e;injection e with e1 e2;subst e1;subst e2;exact⟨hi,h1,h2⟩),rfl⟩
theorem q6M (h:R=.error (8,(k:Int)))(hp:(k:Int)=lim)(hk:k<bs.length)(h1 : -9223372036854775808≤z)(h2:z≤9223372036854775807):q2c bs lim (sgn m R) (.returned (.tuple #[.agg (thA 3 z ⟨#[]⟩ qxE qxE),.int .i64 k,.agg (qqp (0,0))])) :=
 ⟨.ok (z,k),.inr ⟨k,by rw[h];rfl,hp,hk,_,rfl⟩,(fun z' q e=>by injection e with e;injection e with e1 e2;subst e1;subst e2;exact⟨⟨by omega,by omega⟩,h1,h2⟩),rfl⟩
theorem q2w (h:qyb bs l p=false):q0j bs l p=false:=by
 unfold qyb at h;unfold q0j
 cases hc:bs[p]? with
 |none=>rfl
 |some c =>
  simp only[];rw[decide_eq_true (ltL hc),Bool.true_and] at h;rw[h];rfl
theorem q6q (bs:List UInt8)(lim:Int)(most:Nat)(z:Bool)(k num:Nat)(hk:k≤bs.length):qfi bs lim most z (bs.length+1-k) k num=match bs[k]? with
  |none=>.ok (num,k)
  |some c=>if (k:Int)=lim then .error (8,(k:Int)) else
   if qcQ c=true then (if z=true then .error (9,(k:Int)) else if (most-(c.toNat-48)) / 10<num then .error (10,(k:Int)) else qfi bs lim most z (bs.length+1-(k+1)) (k+1) (num*10+(c.toNat-48)))
   else if c.toNat=46∨c.toNat=101∨c.toNat=69 then .error (10,(k:Int)) else .ok (num,k):=by
 obtain⟨g,hg⟩:∃g,bs.length+1-k=g+1:=⟨bs.length-k,by omega⟩
 rw[hg,qfi,show bs.length+1-(k+1)=g by omega];cases bs[k]? <;> rfl
theorem q2C {c:UInt8}(hl:Lm bs l lim)(hi:InR bs lim p)(h:bs[p]? = some c)(hp:¬(p:Int)=lim):q0j bs l p=qcQ c:=by
 have h1:=ltL h;have h2:=hl p h1;have h3:=hi.2;unfold q0j;rw[h];simp only[];rw[decide_eq_true (p:=(p:Int)<l) (by omega),Bool.true_and]
theorem q1R (W:World)(bs:List UInt8)(fm d l:Int)(i:Nat)(c:UInt8)(hc:bs[i]? = some c)(hm:c.toNat=45)(hb:bs.length≤200000000)(x:Int×Int)(hD:q0j bs l (i+1)=false)(hX:qr0 bs l (i+1) 9=x):Calls prog 173 #[.agg (inA bs fm d l),.int .i64 i] W fun e W'=>q7e (.error x) e∧Below W.heap.size W W':=by
 have hil:=ltL hc;have hix:=qxH bs i c hc;have h45:((c.toNat:Int)==45)=true:=by rw[hm];rfl
 have cD:∀V,Calls prog 206 #[.agg #[.string ⟨bs.toArray⟩,.int .i64 fm,.int .i64 d,.int .i64 l],.int .i64 ((i:Int)+1)] V fun e W'=>e=.returned (.bool false)∧Below V.heap.size V W':=fun V=>by
  have:=q1t V bs fm d l (i+1);rw[hD] at this;exact this
 have cB:∀V,Calls prog 71 #[.agg #[.string ⟨bs.toArray⟩,.int .i64 fm,.int .i64 d,.int .i64 l],.int .i64 ((i:Int)+1),.int .i64 9] V fun e W'=>e=.returned (.agg (qqp x))∧Below V.heap.size V W':=fun V=>by
  have:=qyv V bs fm d l (i+1) 9;rw[hX] at this;exact this
 have HX:=qzU W bs fm d l;clear hc hm hD hX;unfold inA;go_enter func173,ntmps173
 go_wp2_with (first
  |(go_at_call 206;refine ck4 (cD _) HX.out.next (fun _ h=>h.box) ?_;clear cD;intro w2 HX2 c0 c1 c2 c3)
  |(go_at_call 71;refine ck4 (cB _) HX2.out.next (fun _ h=>h.box) ?_;clear cB c0 c1 c2 c3;intro w3 HX3 c0 c1 c2 c3)
  |((with_reducible refine stT 4 23 rfl rfl (W.heap.size+1) (th0) ?_ ?_ ?_ ?_ ?_);exact rfl;exact rfl;exact HX3.out.th;exact thg)
  |((with_reducible refine stF 6 26 rfl rfl (W.heap.size+2) (x) ?_ ?_ ?_ ?_);exact rfl;exact rfl;exact qyc HX3.out bwR _))
 have hf:=qxQ HX3.out bwR (th0) (x);refine eoT results173 hf _ rfl rfl rfl rfl ⟨?_,hf.2.2⟩;rfl
def NmW (bs:List UInt8)(l lim:Int)(m:Bool)(B f k num:Nat)(ch:UInt8)(R:Except (Int×Int) (Nat×Nat)):Prop :=
 (q0j bs l k=false∧qyb bs l k=false∧(∀z:Int,z=(if m=true then -(num:Int) else (num:Int)) → -9223372036854775808≤z→z≤9223372036854775807→q2c bs lim (sgn m R) (.returned (.tuple #[.agg (thA 3 z ⟨#[]⟩ qxE qxE),.int .i64 k,.agg (qqp (0,0))]))))∨(q0j bs l k=false∧qyb bs l k=true∧∃cc,bs[k]? = some cc∧((cc.toNat:Int)==46)=false∧((cc.toNat:Int)==101)=false∧((cc.toNat:Int)==69)=false∧(∀z:Int,z=(if m=true then -(num:Int) else (num:Int)) → -9223372036854775808≤z→z≤9223372036854775807→q2c bs lim (sgn m R) (.returned (.tuple #[.agg (thA 3 z ⟨#[]⟩ qxE qxE),.int .i64 k,.agg (qqp (0,0))]))))∨(q0j bs l k=false∧qyb bs l k=true∧∃cc,bs[k]? = some cc∧((cc.toNat:Int)==46)=true∧qr0 bs l k 10=(10,(k:Int))∧q2c bs lim (sgn m R) (.returned (.tuple #[.agg th0,.int .i64 0,.agg (qqp (10,(k:Int)))])))∨(q0j bs l k=false∧qyb bs l k=true∧∃cc,bs[k]? = some cc∧((cc.toNat:Int)==46)=false∧((cc.toNat:Int)==101)=true∧qr0 bs l k 10=(10,(k:Int))∧q2c bs lim (sgn m R) (.returned (.tuple #[.agg th0,.int .i64 0,.agg (qqp (10,(k:Int)))])))∨(q0j bs l k=false∧qyb bs l k=true∧∃cc,bs[k]? = some cc∧((cc.toNat:Int)==46)=false∧((cc.toNat:Int)==101)=false∧((cc.toNat:Int)==69)=true∧qr0 bs l k 10=(10,(k:Int))∧q2c bs lim (sgn m R) (.returned (.tuple #[.agg th0,.int .i64 0,.agg (qqp (10,(k:Int)))])))∨(q0j bs l k=true∧∃cc,bs[k]? = some cc∧48≤(cc.toNat:Int)∧(cc.toNat:Int)≤57∧(f:Int)<(k:Int)∧((ch.toNat:Int)==48)=true∧qr0 bs l k 9=(9,(k:Int))∧q2c bs lim (sgn m R) (.returned (.tuple #[.agg th0,.int .i64 0,.agg (qqp (9,(k:Int)))])))∨(q0j bs l k=true∧∃cc,bs[k]? = some cc∧48≤(cc.toNat:Int)∧(cc.toNat:Int)≤57∧(f:Int)<(k:Int)∧((ch.toNat:Int)==48)=false ∧ -(num:Int)<(-9223372036854775808+((cc.toNat:Int)-48)).tdiv 10∧qr0 bs l k 10=(10,(k:Int))∧q2c bs lim (sgn m R) (.returned (.tuple #[.agg th0,.int .i64 0,.agg (qqp (10,(k:Int)))])))∨(q0j bs l k=true∧∃cc,bs[k]? = some cc∧48≤(cc.toNat:Int)∧(cc.toNat:Int)≤57∧(f:Int)<(k:Int)∧((ch.toNat:Int)==48)=false∧¬-(num:Int)<(-9223372036854775808+((cc.toNat:Int)-48)).tdiv 10∧m=false∧(-(num:Int)*10-((cc.toNat:Int)-48) == -9223372036854775808)=true ∧ -9223372036854775808 ≤ -(num:Int)*10 ∧ -9223372036854775808 ≤ -(num:Int)*10-((cc.toNat:Int)-48)∧qr0 bs l k 10=(10,(k:Int))∧q2c bs lim (sgn m R) (.returned (.tuple #[.agg th0,.int .i64 0,.agg (qqp (10,(k:Int)))])))∨(q0j bs l k=true∧∃cc,bs[k]? = some cc∧48≤(cc.toNat:Int)∧(cc.toNat:Int)≤57∧decide ((f:Int)<(k:Int))=false∧(k:Int)≤(f:Int)∧¬-(num:Int)<(-9223372036854775808+((cc.toNat:Int)-48)).tdiv 10 ∧ -9223372036854775808 ≤ -(num:Int)*10 ∧ -9223372036854775808 ≤ -(num:Int)*10-((cc.toNat:Int)-48)∧(m=false→(-(num:Int)*10-((cc.toNat:Int)-48) == -9223372036854775808)=false)∧num*10+(cc.toNat-48)≤B∧InR bs lim (k+1)∧qfi bs lim B (ch.toNat==48) (bs.length+1-(k+1)) (k+1) (num*10+(cc.toNat-48))=R)∨(q0j bs l k=true∧∃cc,bs[k]? = some cc∧48≤(cc.toNat:Int)∧(cc.toNat:Int)≤57∧(f:Int)<(k:Int)∧((ch.toNat:Int)==48)=false∧¬-(num:Int)<(-9223372036854775808+((cc.toNat:Int)-48)).tdiv 10 ∧ -9223372036854775808 ≤ -(num:Int)*10 ∧ -9223372036854775808 ≤ -(num:Int)*10-((cc.toNat:Int)-48)∧(m=false→(-(num:Int)*10-((cc.toNat:Int)-48) == -9223372036854775808)=false)∧num*10+(cc.toNat-48)≤B∧InR bs lim (k+1)∧qfi bs lim B (ch.toNat==48) (bs.length+1-(k+1)) (k+1) (num*10+(cc.toNat-48))=R)
theorem q4N {B f:Nat}{ch:UInt8}(hB:(m=true∧B=9223372036854775808)∨(m=false∧B=9223372036854775807))(hn:num≤B)(hl:Lm bs l lim)(hi:InR bs lim k)(hch:bs[f]? = some ch)(hd:qcQ ch=true)(hfl:¬(f:Int)=lim)(hfk:f≤k)(hR:qfi bs lim B (ch.toNat==48) (bs.length+1-(f+1)) (f+1) (ch.toNat-48)=R)(hpp:(k=f∧num=0)∨(f<k∧qfi bs lim B (ch.toNat==48) (bs.length+1-k) k num=R)):NmW bs l lim m B f k num ch R:=by
 have hk0:k=f→bs[k]? = some ch:=fun h=>by rw[h];exact hch
 have hrk:¬k=f→R=_:=fun h=>by
  rcases hpp with h2|h2
  ·omega
  exact h2.2.symm.trans (q6q bs lim B (ch.toNat==48) k num hi.1)
 cases hck:bs[k]? with
 |none =>
  have h1:=hrk fun h=>by rw[hk0 h] at hck;cases hck
  rw[hck] at h1;exact .inl ⟨q2w (qxS hck),qxS hck,fun z h h2 h3=>q5t h1 hi h h2 h3⟩
 |some cc =>
  rw[hck] at hrk;simp only[] at hrk;by_cases hp:(k:Int)=lim
  ·have h1:=hrk fun h=>hfl (by rw[←h];exact hp);rw[if_pos hp] at h1;exact .inl ⟨q2w (qyg hl hck hp),qyg hl hck hp,fun z h h2 h3=>q6M h1 hp (ltL hck) h2 h3⟩
  have hdh:=q2C hl hi hck hp;have hb:=fun e=>qxT hl hi hck hp e;have hh:=qxO hl hi hck hp;rw[if_neg hp] at hrk;cases hdg:qcQ cc
  ·have h1:=hrk fun h=>by
    have h2:=hk0 h;rw[hck] at h2;injection h2 with h2;rw[h2,hd] at hdg;cases hdg
   rw[if_neg (by rw[hdg];decide)] at h1;by_cases he:cc.toNat=46∨cc.toNat=101∨cc.toNat=69
   ·rw[if_pos he] at h1;have hv:=q3Y (bs:=bs) (lim:=lim) (m:=m) h1;by_cases h46:cc.toNat=46
    ·exact .inr (.inr (.inl ⟨hdh.trans hdg,hh,cc,hck,by simp;omega,hb 10,hv⟩))
    by_cases h101:cc.toNat=101
    ·exact .inr (.inr (.inr (.inl ⟨hdh.trans hdg,hh,cc,hck,by simp;omega,by simp;omega,hb 10,hv⟩)))
    exact .inr (.inr (.inr (.inr (.inl ⟨hdh.trans hdg,hh,cc,hck,by simp;omega,by simp;omega,by simp;omega,hb 10,hv⟩))))
   rw[if_neg he] at h1;exact .inr (.inl ⟨hdh.trans hdg,hh,cc,hck,by simp;omega,by simp;omega,by simp;omega,fun z h h2 h3=>q5t h1 hi h h2 h3⟩)
  rw[if_pos hdg] at hrk;obtain⟨g1,g2⟩:=of_decide_eq_true (by unfold qcQ at hdg;exact hdg);have hov:=q6F num (cc.toNat-48) (by omega);rw[show((cc.toNat-48:Nat):Int)=(cc.toNat:Int)-48 by omega] at hov;by_cases hze:f<k∧ch.toNat=48
  ·have h2:=hrk (by omega);rw[if_pos (by simp[hze.2])] at h2;exact .inr (.inr (.inr (.inr (.inr (.inl ⟨hdh.trans hdg,cc,hck,g1,g2,by omega,by simp;omega,hb 9,q3Y h2⟩)))))
  have hz2:f<k→¬(ch.toNat==48)=true:=fun h h2=>hze ⟨h,by simpa using h2⟩;by_cases hom:(B-(cc.toNat-48)) / 10<num
  ·have hf3:f<k:=by omega
   have h2:=hrk (by omega);rw[if_neg (hz2 hf3),if_pos hom] at h2;have hv:=q3Y (bs:=bs) (lim:=lim) (m:=m) h2;by_cases hA : -(num:Int)<(-9223372036854775808+((cc.toNat:Int)-48)).tdiv 10
   ·exact .inr (.inr (.inr (.inr (.inr (.inr (.inl ⟨hdh.trans hdg,cc,hck,g1,g2,by omega,by simp;omega,hA,hb 10,hv⟩))))))
   have h3:¬(9223372036854775808-(cc.toNat-48)) / 10<num:=fun h=>hA (hov.2 h);exact .inr (.inr (.inr (.inr (.inr (.inr (.inr (.inl ⟨hdh.trans hdg,cc,hck,g1,g2,by omega,by simp;omega,hA,hB.elim (fun h=>by omega) (fun h=>h.1),by simp;omega,by omega,by omega,hb 10,hv⟩)))))))
  have h3:¬(9223372036854775808-(cc.toNat-48)) / 10<num:=by omega
  have hA:¬-(num:Int)<(-9223372036854775808+((cc.toNat:Int)-48)).tdiv 10:=fun h=>h3 (hov.1 h);have hN:qfi bs lim B (ch.toNat==48) (bs.length+1-(k+1)) (k+1) (num*10+(cc.toNat-48))=R:=by
   by_cases h:k=f
   ·have h2:=hk0 h;rw[hck] at h2;injection h2 with h2;rw[show num=0 by omega,h2,h,Nat.zero_mul,Nat.zero_add];exact hR
   have h2:=hrk h;rw[if_neg (hz2 (by omega)),if_neg hom] at h2;exact h2.symm
  have hE:m=false→(-(num:Int)*10-((cc.toNat:Int)-48) == -9223372036854775808)=false:=fun h=>hB.elim (fun h2=>by rw[h] at h2;cases h2.1) (fun h2=>by simp;omega);have hi2:=qxJ hi hck hp;by_cases h:f<k
  ·exact .inr (.inr (.inr (.inr (.inr (.inr (.inr (.inr (.inr (⟨hdh.trans hdg,cc,hck,g1,g2,by omega,by simp;omega,hA,by omega,by omega,hE,by omega,hi2,hN⟩)))))))))
  exact .inr (.inr (.inr (.inr (.inr (.inr (.inr (.inr (.inl ⟨hdh.trans hdg,cc,hck,g1,g2,by simp;omega,by omega,hA,by omega,by omega,hE,by omega,hi2,hN⟩))))))))
theorem q2B (W:World)(bs:List UInt8)(fm d l lim:Int)(i f B:Nat)(m:Bool)(c ch:UInt8)(hc:bs[i]? = some c)(hm:(m=true∧c.toNat=45∧f=i+1∧B=9223372036854775808)∨(m=false∧¬c.toNat=45∧f=i∧B=9223372036854775807))(hch:bs[f]? = some ch)(hd:qcQ ch=true)(hfl:¬(f:Int)=lim)(hl:Lm bs l lim)(hi:InR bs lim f)(hb:bs.length≤200000000):Calls prog 173 #[.agg (inA bs fm d l),.int .i64 i] W fun e W'=>q2c bs lim (sgn m (qfi bs lim B (ch.toNat==48) (bs.length+1-(f+1)) (f+1) (ch.toNat-48))) e∧Below W.heap.size W W':=by
 obtain⟨R,HR⟩:∃R,Hid (qfi bs lim B (ch.toNat==48) (bs.length+1-(f+1)) (f+1) (ch.toNat-48)=R):=⟨_,show _=_ from rfl⟩
 rw[HR.out];have hil:=ltL hc;have hfb:=ltL hch;have hix:=qxH bs i c hc;have hixf:=fun V=>qxH bs f ch hch V;have HI:=qaa hi;have HWW:=qaa (fun k num hfk hn hi h=>q4N (k:=k) (num:=num) (m:=m) (hm.imp (fun h=>⟨h.1,h.2.2.2⟩) (fun h=>⟨h.1,h.2.2.2⟩)) hn hl hi hch hd hfl hfk HR.out h);have cD:∀V (k:Nat),Calls prog 206 #[.agg #[.string ⟨bs.toArray⟩,.int .i64 fm,.int .i64 d,.int .i64 l],.int .i64 k] V fun e W'=>e=.returned (.bool (q0j bs l k))∧Below V.heap.size V W':=fun V k=>q1t V bs fm d l k;have cH:=qzv bs fm d l;have cB:=qzy bs fm d l;have cD0:∀V,Calls prog 206 #[.agg #[.string ⟨bs.toArray⟩,.int .i64 fm,.int .i64 d,.int .i64 l],.int .i64 (f:Int)] V fun e W'=>e=.returned (.bool true)∧Below V.heap.size V W':=fun V=>by
  have:=cD V f;rw[q2C hl hi hch hfl,hd] at this;exact this
 have HX:=qzU W bs fm d l;clear hc hch hd hfl hl hi HR;unfold inA;rcases hm with ⟨rfl,hm,hf,hB⟩|⟨rfl,hm,hf,hB⟩
 have h45:((c.toNat:Int)==45)=true:=(by rw[hm];rfl);rotate_left
 have h45:=nec (c:=c) 45 (by omega);rotate_left
 all_goals
  have HB:=qaa hB;have HFF:=qaa (show _=(f:Int) from(congrArg Nat.cast hf).symm);clear hm hf hB;go_enter func173,ntmps173
  go_wp2_with fail
  first
   |rw[show(i:Int)+1=(f:Int) from HFF.out]
   |rw[show(i:Int)=(f:Int) from HFF.out]
  refine ckB (cD0 _) HX.out.next ?_
  clear cD0;intro w2 hB2 HX2;obtain⟨c0,c1,c2,c3⟩:=qyf HX2.out.box
  go_wp2_with fail
  clear c0 c1 c2 c3 hB2 HX
  go_loopg [1,9] (bs.length+1-f) (fun g zi zn wr=>∃k num:Nat,zi=.int .i64 k∧zn=.int .i64 (-(num:Int))∧Hid (bs.length+1≤k+g)∧Hid (f≤k)∧Hid (num≤B)∧Hid (RTh W (inA bs fm d l) wr)∧Hid (InR bs lim k)∧Hid ((k=f∧num=0)∨(f<k∧qfi bs lim B (ch.toNat==48) (bs.length+1-k) k num=R)))
  case atStart=>exact⟨f,0,rfl,rfl,by show _≤_;omega,Nat.le_refl _,Nat.zero_le _,HX2,HI,.inl ⟨rfl,rfl⟩⟩
  case round =>
   clear HX2 HI;obtain⟨k,num,rfl,rfl,hg,hfk,hnm,HX,HI,HP⟩:=hrel;have hkk:=HI.out.1;have hnb:=hnm.out;have hBB:=HB.out;obtain⟨c0,c1,c2,c3⟩:=qyf HX.out.box;have cD1:=fun V=>cD V k;have cH1:=fun V=>cH V k;rcases HWW.out k num hfk.out hnm.out HI.out HP.out with ⟨hd0,hh,hv⟩|⟨hd0,hh,cc,hck,h46,h101,h69,hv⟩|⟨hd0,hh,cc,hck,h46,hbd,hv⟩|⟨hd0,hh,cc,hck,h46,h101,hbd,hv⟩|⟨hd0,hh,cc,hck,h46,h101,h69,hbd,hv⟩|⟨hd0,cc,hck,g1,g2,hlt,hz,hbd,hv⟩|⟨hd0,cc,hck,g1,g2,hlt,hz,hA,hbd,hv⟩|⟨hd0,cc,hck,g1,g2,hlt,hz,hA,hm5,hEq,hb1,hb2,hbd,hv⟩|⟨hd0,cc,hck,g1,g2,hgt,hgt2,hA,hb1,hb2,hEq,HMX,HNX,HN⟩|⟨hd0,cc,hck,g1,g2,hlt,hz,hA,hb1,hb2,hEq,HMX,HNX,HN⟩
   all_goals
    rw[hd0] at cD1
    try rw[hh] at cH1
    try (have hixk:=qxH bs k cc hck;have hkb:=ltL hck)
    try (have cB1:=q11 fm d hbd)
    try have HV:=qaa hv
    try have HNN:=qaa HN
    try have HNX:=qaa HNX
    try have HMX:=qaa HMX
    try have hEq:=hEq rfl
    try clear hv
    try clear HN hck
    clear cD cH cB HP hix hd0 HWW
    try cases hm5
   all_goals
    go_wp2_with (first
     |(go_at_call 206;refine ck4 (cD1 _) HX.out.next (fun _ h=>h.box) ?_;clear cD1 c0 c1 c2 c3;intro w2 HX2 c0 c1 c2 c3;have HX4:=HX2)
     |(go_at_call 113;refine ck4 (cH1 _) HX2.out.next (fun _ h=>h.box) ?_;clear cH1 c0 c1 c2 c3 HX4;intro w3 HX4 c0 c1 c2 c3;have HX2:=HX4)
     |(go_at_call 71;refine ck4 (cB1 _) HX2.out.next (fun _ h=>h.box) ?_;clear cB1 c0 c1 c2 c3 HX4;intro w4 HX4 c0 c1 c2 c3)
     |((with_reducible refine stT 4 _ rfl rfl (W.heap.size+1) (th0) ?_ ?_ ?_ ?_ ?_);exact rfl;exact rfl;exact HX4.out.th;exact thg)
     |((with_reducible refine stT 4 _ rfl rfl (W.heap.size+1) (thA 3 (-(num:Int)) ⟨#[]⟩ qxE qxE) ?_ ?_ ?_ ?_ ?_);exact rfl;exact rfl;exact HX4.out.th;exact thg)
     |((with_reducible refine stT 4 _ rfl rfl (W.heap.size+1) (thA 3 (num:Int) ⟨#[]⟩ qxE qxE) ?_ ?_ ?_ ?_ ?_);exact rfl;exact rfl;exact HX4.out.th;exact thg)
     |((with_reducible refine stF 6 _ rfl rfl (W.heap.size+2) (0,0) ?_ ?_ ?_ ?_);exact rfl;exact rfl;exact qyc HX4.out bwR _)
     |((with_reducible refine stF 6 _ rfl rfl (W.heap.size+2) (9,(k:Int)) ?_ ?_ ?_ ?_);exact rfl;exact rfl;exact qyc HX4.out bwR _)
     |((with_reducible refine stF 6 _ rfl rfl (W.heap.size+2) (10,(k:Int)) ?_ ?_ ?_ ?_);exact rfl;exact rfl;exact qyc HX4.out bwR _))
    try exact eoT results173 (qxQ HX4.out bwR _ _) _ rfl rfl rfl rfl ⟨HV.out,(qxQ HX4.out bwR _ _).2.2⟩
    try exact eoT results173 (qxQ HX4.out bwR _ _) _ rfl rfl rfl rfl ⟨HV.out _ rfl (by omega) (by omega),(qxQ HX4.out bwR _ _).2.2⟩
   all_goals
    obtain⟨gg,hgg⟩:∃gg,gk=gg+1:=⟨gk-1,by have:=hg.out;omega⟩
    subst hgg;go_roundg gg
    case measure=>omega
    case rel=>exact⟨k+1,num*10+(cc.toNat-48),by go_num,congrArg (Value.int .i64) (by omega),by show _≤_;have:=hg.out;omega,by show _≤_;have:=hfk.out;omega,HMX,HX2,HNX,.inr ⟨by have:=hfk.out;omega,HNN.out⟩⟩
end
end Go.Proofs.YtllcbnfmihfaaaaGreatDoor
