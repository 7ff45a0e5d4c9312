import Derived.Test.YtllcbnfmihfaaaaGreatDoorCq27
import Derived.Test.YtllcbnfmihfaaaaGreatDoorCq37
set_option maxRecDepth 100000
set_option maxHeartbeats 8000000
namespace Go.Proofs.YtllcbnfmihfaaaaGreatDoor
open Go.Proofs.Tryz
variable {V W w2:World}{A L j k tb:Nat}{q:Aut}{sv:Value}{st:Nat→Nat}{tk:Nat→Nat→Nat}{rs:List (List (Nat×List UInt8)×Int×Int)}
section
open Go.RowKit
theorem quN (h:qci W A tb L q sv st tk V)(hne:A≠tb)(hk:k<16)(hw:w2=V.drew.setCell ⟨A,3+k,none⟩ (.int .u16 ((st k ||| 2^j:Nat):Int))):qci W A tb L q sv (stU st k j true) tk w2:=by
 rw[hw,←qrV];exact h.stays hne k (st k ||| 2^j) hk
theorem qk0 (h:qci W A tb L q sv st tk V)(hne:A≠tb)(htb:W.heap.size≤tb){x o:Nat}(hx:x<L)(hk:k<16)(ho:o=x*16)(hw:w2=V.drew.setCell ⟨tb,o+k,none⟩ (.int .u16 ((tk x k ||| 2^j:Nat):Int))):qci W A tb L q sv st (tk1 tk x k j) w2:=by
 rw[hw,ho];exact h.one hne htb x k j hx hk
def qwo (W:World)(A:Nat)(q:Aut)(sv:Value)(ks:List (List UInt8))(e:Ending)(W':World):Prop :=
 e=.returned (.tuple #[])∧∃tb st tk,W.heap.size≤tb∧qci W A tb (2+ks.length) q sv st tk W'∧LyD q.rs ks st tk
theorem qgm (W0 W:World)(A:Nat)(q:Aut)(sv:Value)(ks:List (List UInt8))(hW0:Below W0.heap.size W0 W)(hrow:W.heap[A]? = some (.cells (qhM q (fun _=>0) (.slice none 0 0) sv) 168))(hA0:W0.heap.size≤A)(hn:q.rs.length≤16)(h8:∀i (h:i<q.rs.length),q.rs[i].1.length≤8)(hk3:∀i (h:i<q.rs.length) j (h2:j<q.rs[i].1.length),q.rs[i].1[j].1≤3∧q.rs[i].1[j].2.length≤1000000000)(hr:qdW W0 q.ra q.rs)(hm:ImK W q.lm ks)(hks:ks.length≤128)(hin:∀i (h:i<q.rs.length) j (h2:j<q.rs[i].1.length),q.rs[i].1[j].1=3→q.rs[i].1[j].2∈ks)(hAl:A≠q.lm):Calls prog 85 #[.pointer (some ⟨A,0,none⟩)] W (qwo W A q sv ks):=by
 have c2:=(cell_of_row W A 2 _ _ _ hrow).trans (qnN _ _ _ _);have hlen:=hm.len underlying159;have HROW:=qaa hrow;have f19:=frozen_of_row W A 19 _ _ hrow;have c19:=(cell_of_row W A 19 _ _ _ hrow).trans (qp9 _ _ _ _);have HR:=qaa hr;have HW0:=qaa hW0;have HM:=qaa hm;have HK3:=qaa hk3;have HIN:=qaa hin;have H8:=qaa h8;have HMK:=qaa (qxi ks.length hks);have HKS:=qaa hks;clear hrow hr hW0 hm hk3 hin h8 hks;go_enter func85,ntmps85;have hmk:=HMK.out;have lA:=ltA HROW.out;have hAne:A≠W.heap.size:=by omega
 have HEQ:Hid ((W.alloc (.cells (madeCells (plA zPl) ((2+ks.length)*16)) 164)).setCell ⟨A,19,none⟩ (.slice (some ⟨W.heap.size,0,none⟩) (2+ks.length) (2+ks.length))=(W.setCell ⟨A,19,none⟩ (.slice (some ⟨W.heap.size,0,none⟩) (2+ks.length) (2+ks.length))).alloc (.cells (madeCells (plA zPl) ((2+ks.length)*16)) 164)):=by show _=_;go_simp
 have HL0:Hid (qci W A W.heap.size (2+ks.length) q sv (fun _=>0) (fun _ _=>0) ((W.setCell ⟨A,19,none⟩ (.slice (some ⟨W.heap.size,0,none⟩) (2+ks.length) (2+ks.length))).alloc (.cells (madeCells (plA zPl) ((2+ks.length)*16)) 164))):=by
  have h:=qmB (L:=2+ks.length) HROW.out;rw[HEQ.out] at h;exact h
 have c0:=(cell_of_row _ A 0 _ _ _ HROW.out).trans (qpF _ _ _ _);obtain⟨ra,HRA⟩:∃ra,Hid (q.ra=ra):=⟨_,rfl⟩
 rw[HRA.out] at c0;have HRR:Hid (qdW W0 ra q.rs):=by rw[←HRA.out];exact HR.out
 clear HR HRA;go_wp2;clear c2 hlen f19 c19 c0 hmk HMK HEQ;obtain⟨L,HL⟩:∃L,Hid (L=2+ks.length):=⟨_,rfl⟩
 obtain⟨tb,HTB⟩:∃tb,Hid (W.heap.size≤tb∧tb=W.heap.size):=⟨_,Nat.le_refl _,rfl⟩
 have hAt:A≠tb:=by have:=HTB.out.2;omega
 have HL1:Hid (qci W A tb L q sv (fun _=>0) (fun _ _=>0) ((W.setCell ⟨A,19,none⟩ (.slice (some ⟨W.heap.size,0,none⟩) (2+ks.length) (2+ks.length))).alloc (.cells (madeCells (plA zPl) ((2+ks.length)*16)) 164))):=by
  rw[HL.out,HTB.out.2];exact HL0.out
 clear HL0;generalize (W.setCell ⟨A,19,none⟩ (.slice (some ⟨W.heap.size,0,none⟩) (2+ks.length) (2+ks.length))).alloc (.cells (madeCells (plA zPl) ((2+ks.length)*16)) 164)=V00 at *
 go_loopg [22] q.rs.length (fun g z wr=>∃(k:Nat) (st:Nat→Nat) (tk:Nat→Nat→Nat),z=.int .i64 k∧Hid (k+g=q.rs.length)∧Hid (qci W A tb L q sv st tk wr)∧Hid (LyM q.rs ks k 0 st tk))
 case atStart=>exact⟨0,_,_,rfl,by show _=_;omega,HL1,qos _ _⟩
 case round =>
  clear HL1;obtain⟨k,st,tk,rfl,hg,HN,HK⟩:=hrel
  cases gk with
  |zero =>
   have hlt:¬(k:Int)<(q.rs.length:Int):=by have:=hg.out;omega
   go_wp2;go_end0;refine⟨rfl,tb,st,tk,HTB.out.1,?_,HK.out.done (by have:=hg.out;omega)⟩;rw[←HL.out];exact HN.out
  |succ g =>
   have hkn:k<q.rs.length:=by have:=hg.out;omega
   have hlt:(k:Int)<(q.rs.length:Int):=by omega
   obtain⟨b,off,pa,pc,rfl,hb,e0,e1,e2,hseg⟩:=(HRR.out.below (HN.out.low HW0.out hA0)).at_ k hkn;have HSG:Hid (qks W0 pa q.rs[k].1):=by
    obtain⟨b',off',pa',pc',hab,hb',f0,f1,f2,hs'⟩:=HRR.out.at_ k hkn;injection hab with hab;injection hab with hab1 hab2;subst hab1;subst hab2;have e3:=((HN.out.low HW0.out hA0).cell (p:=⟨b,off+k*3,none⟩) hb').trans f0;rw[e0] at e3;injection e3 with e3;injection e3 with e3 _ _;subst e3;exact hs'
   have hk8:=H8.out k hkn;have hk16:k<16:=by omega
   have HKJ:Hid (∀j (h2:j<q.rs[k].1.length),(q.rs[k].1[j].1≤3∧q.rs[k].1[j].2.length≤1000000000)∧(q.rs[k].1[j].1=3→q.rs[k].1[j].2∈ks)):=fun j h2=>⟨HK3.out k hkn j h2,HIN.out k hkn j h2⟩
   have HRK:=qaa (List.getElem?_eq_getElem hkn);have HN1:Hid (qci W A tb L q sv st tk (wr.alloc (.cells #[.slice pa q.rs[k].1.length pc,.int .i64 q.rs[k].2.1,.int .i64 q.rs[k].2.2] 230))):=HN.out.next bwA
   clear hseg;go_wp2;clear e0 e1 e2 HN;generalize wr.alloc (.cells #[.slice pa q.rs[k].1.length pc,.int .i64 q.rs[k].2.1,.int .i64 q.rs[k].2.2] 230)=V0 at *;generalize q.rs[k]=R at *;obtain⟨ss,lb,ac⟩:=R;dsimp only at HSG hk8 HKJ
   go_loopg [30] ss.length (fun g2 z V=>∃(j:Nat) (st:Nat→Nat) (tk:Nat→Nat→Nat),z=.int .i64 j∧Hid (j+g2=ss.length)∧Hid (qci W A tb L q sv st tk V)∧Hid (LyM q.rs ks k j st tk))
   case atStart=>exact⟨0,st,tk,rfl,by show _=_;omega,HN1,HK⟩
   case round =>
    clear HN1 HK;obtain⟨j,st,tk,rfl,hg2,HN2,HK2⟩:=hrel
    cases gk with
    |zero =>
     have hlt2:¬(j:Int)<(ss.length:Int):=by have:=hg2.out;omega
     go_wp2;go_roundg g
     case measure=>omega
     case rel=>exact⟨k+1,st,tk,by go_num,by show _=_;have:=hg.out;omega,HN2,HK2.out.rule HRK.out (by have:=hg2.out;show ss.length≤j;omega)⟩
    |succ g2 =>
     have hjl:j<ss.length:=by have:=hg2.out;omega
     have hlt2:(j:Int)<(ss.length:Int):=by omega
     obtain⟨b2,off2,rfl,hb2,s0,s1⟩:=(HSG.out.below (HN2.out.low HW0.out hA0)).at_ j hjl;obtain⟨⟨hkd,hkl⟩,hmem⟩:=HKJ.out j hjl;have HSJ:=qaa (List.getElem?_eq_getElem hjl);have HKL:=qaa hkl;have HMEM:=qaa hmem;have HKD:=qaa hkd;have hj16:j<16:=by omega
     clear hkl hmem hkd;generalize ss[j]=sg at *;have HN3:Hid (qci W A tb L q sv st tk (wr.alloc (.cells #[.int .i64 sg.1,.string ⟨sg.2.toArray⟩] 235))):=HN2.out.next bwA
     have HLT:=HK2.out.lt H8.out;have HSTL:=qaa HLT.1;have HTKL:=qaa HLT.2;clear HLT;have HP3:=qaa (HK2.out.place HRK.out HSJ.out);have HTL:Hid (tb<wr.heap.size):=by
      obtain⟨cur,h1,_⟩:=HN2.out.tks;exact ltA h1
     obtain⟨kd,key⟩:=sg;have HB3:Hid ((wr.alloc (.cells #[.int .i64 kd,.string ⟨key.toArray⟩] 235)).heap[wr.heap.size]? = some (.cells #[.int .i64 kd,.string ⟨key.toArray⟩] 235)):=qac _ _;dsimp only at HKL HMEM HKD;have d19:=HN2.out.c19;have hAw:=ltA HN2.out.row;have hL1:(1:Int)<(L:Int):=by have:=HL.out;omega
     have hL9:L≤130:=by have:=HL.out;have:=HKS.out;omega
     clear HN2 HK2;rcases(by have:=HKD.out;omega:kd=0∨kd=1∨kd=2∨kd=3) with rfl|rfl|rfl|rfl
     ·have HP4:Hid (LyM q.rs ks k (j+1) st (fun x=>stU (tk x) k j true)):=by
       have h:=HP3.out;have e:stU st k j (((0,key):Nat×List UInt8).1==1)=st:=qec st k j;rw[e] at h;exact h
      clear HP3;go_wp2;generalize wr.alloc (.cells #[.int .i64 ((0:Nat):Int),.string ⟨key.toArray⟩] 235)=V1 at *
      go_loopg [44] L (fun g3 z V=>∃m:Nat,z=.int .i64 m∧Hid (m+g3=L)∧Hid (qci W A tb L q sv st (tkm tk m k j) V))
      case atStart=>exact⟨0,rfl,by show _=_;omega,by rw[qq3];exact HN3⟩
      case round =>
       clear HN3 HB3 d19;obtain⟨m,rfl,hg3,HN4⟩:=hrel
       cases gk with
       |zero =>
        have hlt3:¬(m:Int)<(L:Int):=by have:=hg3.out;omega
        have HN5:Hid (qci W A tb L q sv st (fun x=>stU (tk x) k j true) wr):=HN4.out.alike fun x r hx=>by
         unfold tkm;rw[if_pos (by have:=hg3.out;omega)]
        clear HN4;go_wp2;go_roundg g2
        case measure=>omega
        case rel=>exact⟨j+1,st,_,by go_num,by show _=_;have:=hg2.out;omega,HN5,HP4⟩
       |succ g3 =>
        have hmL:m<L:=by have:=hg3.out;omega
        have hlt3:(m:Int)<(L:Int):=by omega
        have d19:=HN4.out.c19;obtain⟨ct,cf⟩:=HN4.out.ct m k hmL hk16;have hlt16:tkm tk m k j m k<65536:=by
         unfold tkm;rw[if_neg (by omega)];have:=HTKL.out m k;omega
        have cA:=qdf wr tb (m*16) (tkm tk m k j m k) k j hk16 hj16 hlt16 ct cf;clear ct cf hlt16
        go_wp2_with (first
         |(go_at_call 137;refine cA.mono ?_;clear cA;rintro e w2 ⟨rfl,hw2⟩;have HN5:=qaa (qk0 HN4.out hAt HTB.out.1 hmL hk16 rfl hw2);clear hw2 d19))
        go_roundg g3
        case measure=>omega
        case rel=>exact⟨m+1,by go_num,by show _=_;have:=hg3.out;omega,by rw[←qqH];exact HN5⟩
     ·have HP4:Hid (LyM q.rs ks k (j+1) (stU st k j true) tk):=by
       have h:=HP3.out;have e:(fun x=>stU (tk x) k j (tkX ks (1,key) x))=tk:=by
        funext x;exact qec (tk x) k j
       rw[e] at h;exact h
      obtain⟨ct,cf⟩:=HN3.out.cs k hk16;have cA:=qdf _ A 3 (st k) k j hk16 hj16 (by have:=HSTL.out k;omega) ct cf;clear HP3 ct cf
      go_wp2_with (first
       |(go_at_call 137;refine cA.mono ?_;clear cA;rintro e w2 ⟨rfl,hw2⟩;have HN5:=qaa (quN HN3.out hAt hk16 hw2);clear hw2 d19 HN3))
      go_roundg g2
      case measure=>omega
      case rel=>exact⟨j+1,_,tk,by go_num,by show _=_;have:=hg2.out;omega,HN5,HP4⟩
     ·have HP4:Hid (LyM q.rs ks k (j+1) st (tk1 tk 1 k j)):=by
       have h:=HP3.out;have e:(fun x=>stU (tk x) k j (tkX ks (2,key) x))=tk1 tk 1 k j:=by
        funext x;exact(qsr tk 1 k j x).symm
       have e2:stU st k j (((2,key):Nat×List UInt8).1==1)=st:=qec st k j;rw[e,e2] at h;exact h
      obtain⟨ct,cf⟩:=HN3.out.ct 1 k (by omega) hk16;have cA:=qdf _ tb 16 (tk 1 k) k j hk16 hj16 (by have:=HTKL.out 1 k;omega) ct cf;clear HP3 ct cf
      go_wp2_with (first
       |(go_at_call 137;refine cA.mono ?_;clear cA;rintro e w2 ⟨rfl,hw2⟩;have HN5:Hid (qci W A tb L q sv st (tk1 tk 1 k j) w2):=qk0 HN3.out hAt HTB.out.1 (by omega) hk16 rfl hw2;clear hw2 d19 HN3))
      go_roundg g2
      case measure=>omega
      case rel=>exact⟨j+1,st,_,by go_num,by show _=_;have:=hg2.out;omega,HN5,HP4⟩
     obtain⟨x,HX⟩:∃x,Hid (x=(fnL ks (.string key)).getD 0):=⟨_,rfl⟩
     have HXL:Hid (x<L):=by
      have h:=HMEM.out rfl;show x<L;rw[HX.out,qes h,HL.out];have:=List.idxOf_lt_length_iff.2 h;show 2+ks.idxOf key<_;omega
     have HP4:Hid (LyM q.rs ks k (j+1) st (tk1 tk x k j)):=by
      have h:=HP3.out;have e:(fun y=>stU (tk y) k j (tkX ks (3,key) y))=tk1 tk x k j:=by
       funext y;rw[qsr,HX.out];rfl
      have e2:stU st k j (((3,key):Nat×List UInt8).1==1)=st:=qec st k j;rw[e,e2] at h;exact h
     have hxL:=HXL.out;have hxi:(x:Int)<(L:Int):=by omega
     clear HP3;go_wp2;generalize wr.alloc (.cells #[.int .i64 ((3:Nat):Int),.string ⟨key.toArray⟩] 235)=V1 at *;generalize wr.heap.size=M at *;refine rgn (S:=fun Z=>(∃tk,qci W A tb L q sv st tk Z)∧Z.heap[M]? = some (.cells #[.int .i64 ((3:Nat):Int),.string ⟨key.toArray⟩] 235)) (⟨⟨tk,HN3.out.next (Below.refl _ _).drew⟩,HB3.out⟩) (by kernel_rfl) ?_;intro hS;refine tkH 0 77 (.pointer (some ⟨A,0,none⟩)) rfl (by kernel_rfl) (fun _ _ _ h=>h) (fun Z hZ=>by kernel_rfl) hS ?_;refine tkH 1 78 (.pointer (some ⟨A,0,none⟩)) rfl (by kernel_rfl) (fun _ _ _ h=>h) (fun Z hZ=>by kernel_rfl) hS ?_;refine tkH 2 79 (.pointer (some ⟨A,19,none⟩)) rfl (by kernel_rfl) (fun _ _ _ h=>h) (fun Z hZ=>by kernel_rfl) hS ?_;refine tkH 3 80 (.slice (some ⟨tb,0,none⟩) L L) rfl (by kernel_rfl) (fun _ _ _ h=>h) (fun Z hZ => ?y3) hS ?_
     case y3=>(obtain⟨tk',hZ1⟩:=hZ.1;have z1:=hZ1.c19;go_simp)
     refine tkH 4 81 (.pointer (some ⟨A,0,none⟩)) rfl (by kernel_rfl) (fun _ _ _ h=>h) (fun Z hZ=>by kernel_rfl) hS ?_;refine tkH 5 82 (.pointer (some ⟨A,0,none⟩)) rfl (by kernel_rfl) (fun _ _ _ h=>h) (fun Z hZ=>by kernel_rfl) hS ?_;refine tkH 6 83 (.pointer (some ⟨A,2,none⟩)) rfl (by kernel_rfl) (fun _ _ _ h=>h) (fun Z hZ=>by kernel_rfl) hS ?_;refine tkH 7 84 (.map (some q.lm)) rfl (by kernel_rfl) (fun _ _ _ h=>h) (fun Z hZ => ?y7) hS ?_
     case y7=>(obtain⟨tk',hZ1⟩:=hZ.1;have z1:=hZ1.c2;go_simp)
     refine tkH 8 85 (.pointer (some ⟨M,1,none⟩)) rfl (by kernel_rfl) (fun _ _ _ h=>h) (fun Z hZ=>by kernel_rfl) hS ?_;refine tkH 9 86 (.string ⟨key.toArray⟩) rfl (by kernel_rfl) (fun _ _ _ h=>h) (fun Z hZ => ?y9) hS ?_
     case y9=>(have z1:=qab hZ.2 1;go_simp)
     refine tkH 10 87 (.int .i64 x) rfl (by kernel_rfl) (fun _ _ _ h=>h) (fun Z hZ => ?y10) hS ?_
     case y10=>(obtain⟨tk',hZ1⟩:=hZ.1;have z3:=qf8 (hZ1.names HM.out hAl).im stK underlying159 (ql8 key HKL.out);rw[←HX.out] at z3;go_simp)
     refine tkH 11 88 (.pointer (some ⟨tb,x*16,none⟩)) rfl (by kernel_rfl) (fun _ _ _ h=>h) (fun Z hZ => ?y11) hS ?_
     case y11=>(go_simp)
     refine tkH 12 89 (.int .i64 k) rfl (by kernel_rfl) (fun _ _ _ h=>h) (fun Z hZ=>by kernel_rfl) hS ?_;refine tkH 13 90 (.int .i64 j) rfl (by kernel_rfl) (fun _ _ _ h=>h) (fun Z hZ=>by kernel_rfl) hS ?_;obtain⟨ct,cf⟩:=(HN3.out.next (Below.refl _ _).drew).ct x k hxL hk16;have cA:=qdf _ tb (x*16) (tk x k) k j hk16 hj16 (by have:=HTKL.out x k;omega) ct cf;clear ct cf;refine rdS 14 rfl (by kernel_rfl) (fun K hK => ?_);go_simp;refine cA.mono ?_;clear cA;rintro e w2 ⟨rfl,hw2⟩;have HN5:=qaa (qk0 (HN3.out.next (Below.refl _ _).drew) hAt HTB.out.1 hxL hk16 rfl hw2);have hS8:(fun Z:World=>(∃tk,qci W A tb L q sv st tk Z)∧Z.heap[M]? = some (.cells #[.int .i64 ((3:Nat):Int),.string ⟨key.toArray⟩] 235)) w2:=⟨⟨_,HN5.out⟩,by rw[hw2];exact(Below.heap_setCell _ _ _ _ (by have:=HTL.out;simp;omega)).trans HB3.out⟩
     clear hw2 HN3 HB3;refine hK.out _ _ hS8 (fun _ => ?_);clear hK hS hS8;refine wpAnyH_done (by kernel_rfl) ?_ _;go_simp;go_wp2;go_roundg g2
     case measure=>omega
     case rel=>exact⟨j+1,st,_,by go_num,by show _=_;have:=hg2.out;omega,HN5,HP4⟩
structure qx1 (W:World)(rs:List (List (Nat×List UInt8)×Int×Int))(dflt:Int)(A:Nat)(q:Aut)(sts:List ((Nat→Nat)×Int×Int))(sa:Option Addr)(sc:Nat)(nf:Lit→Option Nat)(mf:Lit→Option Nat)(W':World):Prop where
 au:qcj W A q sts (.slice sa sts.length sc) nf 0 mf W'
 ers:q.rs=rs
 edf:q.dflt=dflt
 elf:q.lf=fnL (qcl rs)
 eL:q.L=2+(qcl rs).length
 ly:LyD rs (qcl rs) q.st q.tk
 mv:qtn q sts mf
 few:sts.length≤1
 first:∃t Y,sts[0]? = some t∧WdY rs.length q.st (one rs.length) Y∧∀r,r<16→t.1 r=Y r
def qs7 (W:World)(rs:List (List (Nat×List UInt8)×Int×Int))(dflt:Int)(e:Ending)(W':World):Prop :=
 ∃A q sts sa sc nf mf,e=.returned (.pointer (some ⟨A,0,none⟩))∧qx1 W rs dflt A q sts sa sc nf mf W'
def w3M (W:World):World:=((W.alloc (.map #[] 0)).alloc (.map #[] 0)).alloc (.map #[] 0)
theorem qit (W:World):(w3M W).heap.size=W.heap.size+3:=by simp[w3M]
theorem qxD (W:World)(kt:TypeId)(b:Nat)(h1:W.heap.size≤b)(h2:b<W.heap.size+3):qcW (w3M W) kt b 0 (fun _=>none):=by
 have s1:(W.alloc (.map #[] 0)).heap.size=W.heap.size+1:=by simp
 have s2:((W.alloc (.map #[] 0)).alloc (.map #[] 0)).heap.size=W.heap.size+2:=by simp
 rcases(by omega:b=W.heap.size∨b=W.heap.size+1∨b=W.heap.size+2) with rfl|rfl|rfl
 ·exact((qkF W kt).kept (World.grownBy_alloc _ _ none) (by simp)).kept (World.grownBy_alloc _ _ none) (by simp)
 ·have h:=(qkF (W.alloc (.map #[] 0)) kt).kept (World.grownBy_alloc _ (.map #[] 0) none) (by simp);rw[s1] at h;exact h
 have h:=qkF ((W.alloc (.map #[] 0)).alloc (.map #[] 0)) kt;rw[s2] at h;exact h
theorem qwM (W:World)(b:Nat)(h1:W.heap.size≤b)(h2:b<W.heap.size+3):ImK (w3M W) b []:=by
 have s1:(W.alloc (.map #[] 0)).heap.size=W.heap.size+1:=by simp
 have s2:((W.alloc (.map #[] 0)).alloc (.map #[] 0)).heap.size=W.heap.size+2:=by simp
 rcases(by omega:b=W.heap.size∨b=W.heap.size+1∨b=W.heap.size+2) with rfl|rfl|rfl
 ·exact((qh8 W).kept (World.grownBy_alloc _ _ none) (by simp)).kept (World.grownBy_alloc _ _ none) (by simp)
 ·have h:=(qh8 (W.alloc (.map #[] 0))).kept (World.grownBy_alloc _ (.map #[] 0) none) (by simp);rw[s1] at h;exact h
 have h:=qh8 ((W.alloc (.map #[] 0)).alloc (.map #[] 0));rw[s2] at h;exact h
def q0 (ra:Option Addr)(rc:Nat)(rs:List (List (Nat×List UInt8)×Int×Int))(dflt:Int)(lm nb mb:Nat):Aut :=
 {ra:=ra,rc:=rc,rs:=rs,dflt:=dflt,lm:=lm,ln:=0,lf:=fun _=>none,st:=fun _=>0,tb:=0,L:=0,tc:=0,tk:=fun _ _=>0,nb:=nb,mb:=mb}
def q1 (ra:Option Addr)(rc:Nat)(rs:List (List (Nat×List UInt8)×Int×Int))(dflt:Int)(lm nb mb:Nat)(st:Nat→Nat)(tb:Nat)(tk:Nat→Nat→Nat):Aut :=
 {ra:=ra,rc:=rc,rs:=rs,dflt:=dflt,lm:=lm,ln:=(qcl rs).length,lf:=fnL (qcl rs),st:=st,tb:=tb,L:=2+(qcl rs).length,tc:=2+(qcl rs).length,tk:=tk,nb:=nb,mb:=mb}
theorem LyD.lt {ks:List (List UInt8)}(h:LyD rs ks st tk)(h8:∀i (h:i<rs.length),rs[i].1.length≤8):(∀r,st r<256)∧∀x r,tk x r<256 :=
 ⟨fun r=>qrl fun p hp=>by rw[h.s,qlO h8 r p hp],fun x r=>qrl fun p hp=>by rw[h.t,qlO h8 r p hp]⟩
theorem qtj {V0 V1 V2 V3:World}{ra:Option Addr}{rc:Nat}{dflt:Int}{lm nb mb:Nat}(hr:qdW W ra rs)(hn:rs.length≤16)(h8:∀i (h:i<rs.length),rs[i].1.length≤8)(hA:A=W.heap.size+3)(h1:W.heap.size≤lm∧lm<W.heap.size+3)(h2:W.heap.size≤nb∧nb<W.heap.size+3)(h3:W.heap.size≤mb∧mb<W.heap.size+3)(d1:lm≠nb)(d2:lm≠mb)(d3:nb≠mb)(hV0:V0=(w3M W).alloc (.cells (qhM (q0 ra rc rs dflt lm nb mb) (fun _=>0) (.slice none 0 0) (.slice none 0 0)) 168))(hN:qqj V0 lm (qcl rs) V1)(htb:V1.heap.size≤tb)(hL:qci V1 A tb (2+(qcl rs).length) (q0 ra rc rs dflt lm nb mb) (.slice none 0 0) st tk V2)(hD:LyD rs (qcl rs) st tk)(hB:Below V2.heap.size V2 V3):qcj W A (q1 ra rc rs dflt lm nb mb st tb tk) [] (.slice none 0 0) (fun _=>none) 0 (fun _=>none) V3:=by
 have hs0:V0.heap.size=W.heap.size+4:=by rw[hV0,World.size_alloc,qit]
 have hs1:=hN.but.size;have hL3:=hL.next hB
 have b0:Below W.heap.size W V0:=by
  rw[hV0];exact(((bwA).alloc (by simp) _).alloc (by simp;omega) _).alloc (by simp;omega) _
 have b1:=hN.but.low b0 h1.1;have b3:=hL3.low b1 (by omega);have hg0:(w3M W).grownBy V0 none:=by rw[hV0];exact World.grownBy_alloc _ _ none
 have hg1:V0.grownBy V1 (some lm):=⟨hN.but.os,hN.but.tape,hN.but.output,hN.but.size,fun i hi hne=>hN.but.block i hi (by simpa using hne)⟩
 have hg3:V1.grownBy V3 (some A):=⟨hL3.os,hL3.tape,hL3.output,hL3.size,fun i hi hne=>hL3.block i hi (by simpa using hne)⟩
 have key:∀kt b,W.heap.size≤b→b<W.heap.size+3→b≠lm→qcW V3 kt b 0 (fun _=>none):=fun kt b k1 k2 k3 =>
  (((qxD W kt b k1 k2).kept hg0 (by simp)).kept hg1 (by simpa using k3)).kept hg3 (by simp;omega)
 obtain⟨cur,t1,t2⟩:=hL3.tks;refine⟨?_,hr,⟨hn,h8⟩,b3,?_,⟨cur,t1,t2.at_⟩,World.ownsRow_nil _ _ _ _,key _ nb h2.1 h2.2 d1.symm,key _ mb h3.1 h3.2 d2.symm,?_,?_,?_,hD.lt h8,?_,?_,fun l i h=>by cases h⟩
 ·rw[qqO];exact hL3.row
 ·exact(hN.names.kept hg3 (by simp;omega)).im
 ·exact⟨by omega,h1.1,show W.heap.size≤tb by omega,h2.1,h3.1⟩
 ·refine⟨show A≠lm by omega,show A≠tb by omega,show A≠nb by omega,show A≠mb by omega,show lm≠tb by omega,d1,d2,show tb≠nb by omega,show tb≠mb by omega,d3⟩
 ·intro g hg;cases hg
 ·intro i x hx;simp at hx
 intro i x hx;simp at hx
theorem qvg (h:qci W A tb L q sv st tk V):AuR V A q.ra q.rc q.rs.length st :=
 ⟨(ltA h.row),(cell_of_row V A 0 _ _ _ h.row).trans (qpF _ _ _ _),fun r hr=>(h.cs r hr).1⟩
theorem qtJ (ra:Option Addr)(rc:Nat)(rs:List (List (Nat×List UInt8)×Int×Int))(dflt:Int)(lm nb mb:Nat):qhM (q0 ra rc rs dflt lm nb mb) (fun _=>0) (.slice none 0 0) (.slice none 0 0)=#[.slice ra rs.length rc,.int .i64 dflt,.map (some lm),.int .u16 0,.int .u16 0,.int .u16 0,.int .u16 0,.int .u16 0,.int .u16 0,.int .u16 0,.int .u16 0,.int .u16 0,.int .u16 0,.int .u16 0,.int .u16 0,.int .u16 0,.int .u16 0,.int .u16 0,.int .u16 0,.slice none 0 0,.slice none 0 0,.map (some nb),.map (some mb)]:=by kernel_rfl
theorem qxr (V:World):(Instr.makeMap 159 none).run prog V=.ok (.map (some V.heap.size)) (V.alloc (.map #[] 0)):=by kernel_rfl
theorem qxb (V:World):(Instr.makeMap 160 none).run prog V=.ok (.map (some V.heap.size)) (V.alloc (.map #[] 0)):=by kernel_rfl
theorem qwP (V:World):(Instr.makeMap 161 none).run prog V=.ok (.map (some V.heap.size)) (V.alloc (.map #[] 0)):=by kernel_rfl
theorem qkC (W:World)(ra:Option Addr)(rc:Nat)(rs:List (List (Nat×List UInt8)×Int×Int))(dflt:Int)(hr:qdW W ra rs)(hn:rs.length≤16)(h8:∀i (h:i<rs.length),rs[i].1.length≤8)(hk3:∀i (h:i<rs.length) j (h2:j<rs[i].1.length),rs[i].1[j].1≤3∧rs[i].1[j].2.length≤1000000000):Calls prog 49 #[.slice ra rs.length rc,.int .i64 dflt] W (qs7 W rs dflt):=by
 have HR:=qaa hr;have H8:=qaa h8;have HK3:=qaa hk3;have m1:=qxr;have m2:=qxb;have m3:=qwP;have HV0:Hid (∃V0,V0=((((W.alloc (.map #[] 0)).alloc (.map #[] 0)).alloc (.map #[] 0)).alloc (.cells #[.slice ra rs.length rc,.int .i64 dflt,.map (some W.heap.size),.int .u16 0,.int .u16 0,.int .u16 0,.int .u16 0,.int .u16 0,.int .u16 0,.int .u16 0,.int .u16 0,.int .u16 0,.int .u16 0,.int .u16 0,.int .u16 0,.int .u16 0,.int .u16 0,.int .u16 0,.int .u16 0,.slice none 0 0,.slice none 0 0,.map (some (W.heap.size+1)),.map (some (W.heap.size+1+1))] 168))∧V0=(w3M W).alloc (.cells (qhM (q0 ra rc rs dflt W.heap.size (W.heap.size+1) (W.heap.size+1+1)) (fun _=>0) (.slice none 0 0) (.slice none 0 0)) 168)):=⟨_,rfl,by rw[qtJ];rfl⟩
 obtain⟨V0,hV0,hV1⟩:=HV0.out;have HV1:=qaa hV1;have HSZ:Hid (V0.heap.size=W.heap.size+4):=by show _=_;rw[HV1.out,World.size_alloc,qit]
 have HB0:Hid (Below W.heap.size W V0):=by
  show Below _ _ _;rw[HV1.out];exact(((bwA).alloc (by simp) _).alloc (by simp;omega) _).alloc (by simp;omega) _
 have HROW:Hid (V0.heap[W.heap.size+3]? = some (.cells (qhM (q0 ra rc rs dflt W.heap.size (W.heap.size+1) (W.heap.size+1+1)) (fun _=>0) (.slice none 0 0) (.slice none 0 0)) 168)):=by
  show _=_;rw[HV1.out];have:=qac (w3M W) (.cells (qhM (q0 ra rc rs dflt W.heap.size (W.heap.size+1) (W.heap.size+1+1)) (fun _=>0) (.slice none 0 0) (.slice none 0 0)) 168);rw[qit] at this;exact this
 have HNM:Hid (ImK V0 W.heap.size []):=by
  show ImK _ _ _;rw[HV1.out];exact(qwM W W.heap.size (Nat.le_refl _) (by omega)).kept (World.grownBy_alloc _ _ none) (by simp)
 have cN:=qfV W V0 (W.heap.size+1+1+1) W.heap.size ra rc rs HB0.out (by have:=HSZ.out;omega) (by omega) (Nat.le_refl _) hn H8.out (fun i h j h2=>(HK3.out i h j h2).2) ((cell_of_row V0 _ 0 _ _ _ HROW.out).trans (qpF _ _ _ _)) ((cell_of_row V0 _ 2 _ _ _ HROW.out).trans (qnN _ _ _ _)) HR.out HNM.out;go_enter func49,ntmps49
 go_wp2_with (fail)
 rw[←hV0];refine cN.mono ?_;rintro e V1 ⟨rfl,hN⟩;have HN:=qaa hN;have hB1:=hN.but.low HB0.out (Nat.le_refl _);have hrow1:=(hN.but.block (W.heap.size+3) (by have:=HSZ.out;omega) (by omega)).trans HROW.out;have cL:=qgm W V1 (W.heap.size+1+1+1) (q0 ra rc rs dflt W.heap.size (W.heap.size+1) (W.heap.size+1+1)) (.slice none 0 0) (qcl rs) hB1 hrow1 (by omega) hn H8.out HK3.out HR.out hN.names (ql4 hn H8.out) (fun i h j h2 h3=>qjl h h2 h3) (by show W.heap.size+1+1+1≠W.heap.size;omega)
 go_wp2_with (fail)
 refine cL.mono ?_;rintro e V2 ⟨rfl,tb,st,tk,htb,hL,hD⟩;have HL:=qaa hL;have HTB:=qaa htb;have HD:Hid (LyD rs (qcl rs) st tk):=hD;have cS:=qok V2 (W.heap.size+1+1+1) ra rc rs.length st (hD.lt H8.out).1 hn (qvg hL)
 go_wp2_with (fail)
 refine cS.mono ?_;rintro e V3 ⟨⟨Y,rfl,hY⟩,hB3⟩;have HY:=qaa hY;have hau:=qtj HR.out hn H8.out (A:=W.heap.size+1+1+1) rfl ⟨Nat.le_refl _,by omega⟩ ⟨by omega,by omega⟩ ⟨by omega,by omega⟩ (by omega) (by omega) (by omega) HV1.out HN.out HTB.out HL.out HD.out hB3;have cU:=qgn W _ _ [] none 0 _ 0 _ V3 hau Y hY.2.2 (by simp)
 go_wp2_with (fail)
 refine cU.mono ?_;rintro e V4 ⟨i,sts,sa,sc,nf,rfl,_,_,hA4,_,hlen,x,hx,hxY⟩;have HE:Hid (qs7 W rs dflt (.returned (.pointer (some ⟨W.heap.size+1+1+1,0,none⟩))) V4):=by
  refine⟨_,_,_,_,_,_,_,rfl,⟨hA4,rfl,rfl,rfl,rfl,HD.out,?_,by simpa using hlen,x,Y,?_,HY.out,hxY⟩⟩
  ·intro f x l k _ h;cases h
  have:i<sts.length:=ltL hx;have h0:i=0:=by simp at hlen;omega
  rw[←h0];exact hx
 go_wp2;go_ret;exact HE.out
end
end Go.Proofs.YtllcbnfmihfaaaaGreatDoor
