import Derived.Test.YtllcbnfmihfaaaaGreatDoorCq23
set_option maxRecDepth 100000
set_option maxHeartbeats 8000000
namespace Go.Proofs.YtllcbnfmihfaaaaGreatDoor
open Go.Proofs.Tryz
variable {b i j lm p r:Nat}{V W:World}{ks:List (List UInt8)}{rs:List (List (Nat×List UInt8)×Int×Int)}{R:List (Nat×List UInt8)×Int×Int}{s:Nat×List UInt8}{st:Nat→Nat}{tk:Nat→Nat→Nat}
section
open Go.RowKit
theorem tkU {P:Program}{ops:Array Oper}{Q:Exit→Act→World→Prop}{md:Region.Mode}{S:World→Prop}{oi:Oper}{fuel:Nat}{listed:Array Bool}{a:Act}{w:World}(i dst:Nat)(hi:ops[i]? = some oi)(hk:(Region.noSelect ops&&Region.free md ops listed i&&(Region.ready md ops listed).contains i&&oi.dst==some dst && !Region.wanted oi (yielded ops a.tmps))=true)(hQ:∀c a w,Q (.panic c) (a.put (some dst) undef) w→Q (.panic c) a w)(hS:S w)(h:wpAnyH P md ops Q S fuel (listed.setIfInBounds i true) (a.put (some dst) undef) w):wpAnyH P md ops Q S (fuel+1) listed a w:=by
 simp only[Bool.and_eq_true] at hk;have hd:oi.dst=some dst:=by simpa using hk.1.2
 rw[←hd] at hQ h;exact wpAnyH_take hi hk.1.1.1.1 hk.1.1.1.2 hk.1.1.2 hQ (.inr ⟨by simpa using hk.2,rfl⟩) hS h
structure Bt (b:Nat)(W W':World):Prop where
 os:W'.os=W.os
 tape:W'.tape=W.tape
 output:W'.output=W.output
 size:W.heap.size≤W'.heap.size
 block:∀k,k<W.heap.size→k≠b→W'.heap[k]? = W.heap[k]?
theorem Bt.refl (b:Nat)(W:World):Bt b W W:=⟨rfl,rfl,rfl,Nat.le_refl _,fun _ _ _=>rfl⟩
theorem Bt.trans {A B C:World}(h:Bt b A B)(k:Bt b B C):Bt b A C :=
 ⟨k.os.trans h.os,k.tape.trans h.tape,k.output.trans h.output,Nat.le_trans h.size k.size,fun i h1 h2=>(k.block i (Nat.lt_of_lt_of_le h1 h.size) h2).trans (h.block i h1 h2)⟩
theorem Bt.of_below {W':World}(h:Below W.heap.size W W'):Bt b W W':=⟨h.os,h.tape,h.output,h.size,fun k h1 _=>h.block k h1⟩
structure qqj (W:World)(lm:Nat)(ks:List (List UInt8))(V:World):Prop where
 but:Bt lm W V
 names:ImK V lm ks
theorem qqj.next {V':World}(h:qqj W lm ks V)(hb:Below V.heap.size V V'):qqj W lm ks V' :=
 ⟨h.but.trans (Bt.of_below hb),h.names.kept (row:=none) ⟨hb.os,hb.tape,hb.output,hb.size,fun i hi _=>hb.block i hi⟩ (by simp)⟩
theorem Bt.low {W0:World}(h:Bt lm W V)(h0:Below W0.heap.size W0 W)(hl:W0.heap.size≤lm):Below W0.heap.size W0 V :=
 ⟨h.os.trans h0.os,h.tape.trans h0.tape,h.output.trans h0.output,Nat.le_trans h0.size h.size,fun i hi=>(h.block i (Nat.lt_of_lt_of_le hi h0.size) (by omega)).trans (h0.block i hi)⟩
theorem Bt.cellA {A:Nat}{u:Value}(h:Bt lm W V)(hA:A<W.heap.size)(hne:A≠lm)(hc:W.cell? ⟨A,j,none⟩=some u):V.cell? ⟨A,j,none⟩=some u:=by
 have e:=h.block A hA hne;unfold World.cell? at hc ⊢;rw[e];exact hc
theorem wr2 (n:Nat)(h:n≤128):wrap64 (2+(n:Int))=((2+n:Nat):Int):=by
 unfold wrap64;omega
theorem qfV (W0 W:World)(A lm:Nat)(ra:Option Addr)(rc:Nat)(rs:List (List (Nat×List UInt8)×Int×Int))(hW0:Below W0.heap.size W0 W)(hA:A<W.heap.size)(hAl:A≠lm)(hl:W0.heap.size≤lm)(hn:rs.length≤16)(h8:∀i (h:i<rs.length),rs[i].1.length≤8)(hkl:∀i (h:i<rs.length) j (h2:j<rs[i].1.length),rs[i].1[j].2.length≤1000000000)(c0:W.cell? ⟨A,0,none⟩=some (.slice ra rs.length rc))(c2:W.cell? ⟨A,2,none⟩=some (.map (some lm)))(hr:qdW W0 ra rs)(hm:ImK W lm []):Calls prog 84 #[.pointer (some ⟨A,0,none⟩)] W fun e W'=>e=.returned (.tuple #[])∧qqj W lm (qcl rs) W':=by
 have HR:=qaa hr;have HW0:=qaa hW0;have HM:=qaa hm;go_enter func84,ntmps84;go_wp2
 go_loopg [12] rs.length (fun g z wr=>∃(k:Nat) (ks:List (List UInt8)),z=.int .i64 k∧Hid (k+g=rs.length)∧Hid (qqj W lm ks wr)∧Hid (qcl rs=(rs.drop k).foldl qsz ks)∧Hid (ks.length≤8*k))
 case atStart=>exact⟨0,[],rfl,by show _=_;omega,⟨Bt.refl _ _,HM.out⟩,rfl,by show _≤_;simp⟩
 case round =>
  obtain⟨k,ks,rfl,hg,HN,HK,HL⟩:=hrel
  cases gk with
  |zero =>
   have hlt:¬(k:Int)<(rs.length:Int):=by have:=hg.out;omega
   have HE:Hid (qcl rs=ks):=by
    have h:=HK.out;rw[List.drop_eq_nil_of_le (by have:=hg.out;omega)] at h;exact h
   go_wp2;go_end0;rw[HE.out];exact⟨rfl,HN.out⟩
  |succ g =>
   have hkn:k<rs.length:=by have:=hg.out;omega
   have hlt:(k:Int)<(rs.length:Int):=by omega
   obtain⟨b,off,pa,pc,rfl,hb,e0,e1,e2,hseg⟩:=(HR.out.below (HN.out.but.low HW0.out hl)).at_ k hkn;have HSG:Hid (qks W0 pa rs[k].1):=by
    obtain⟨b',off',pa',pc',hab,hb',f0,f1,f2,hs'⟩:=HR.out.at_ k hkn;injection hab with hab;injection hab with hab1 hab2;subst hab1;subst hab2;have e3:=((HN.out.but.low HW0.out hl).cell (p:=⟨b,off+k*3,none⟩) hb').trans f0;rw[e0] at e3;injection e3 with e3;injection e3 with e3 _ _;subst e3;exact hs'
   have hk8:=h8 k hkn;have HKL:=qaa (hkl k hkn);have HK1:Hid (qcl rs=(rs.drop (k+1)).foldl qsz (rs[k].1.foldl qhw ks)):=by
    have h:=HK.out;rw[List.drop_eq_getElem_cons hkn] at h;exact h
   have HN1:Hid (qqj W lm ks (wr.alloc (.cells #[.slice pa rs[k].1.length pc,.int .i64 rs[k].2.1,.int .i64 rs[k].2.2] 230))):=HN.out.next bwA
   go_wp2;generalize wr.alloc (.cells #[.slice pa rs[k].1.length pc,.int .i64 rs[k].2.1,.int .i64 rs[k].2.2] 230)=V0 at *;generalize hss:rs[k].1=ss at *
   go_loopg [19] ss.length (fun g2 z V=>∃(j:Nat) (kt:List (List UInt8)),z=.int .i64 j∧Hid (j+g2=ss.length)∧Hid (qqj W lm kt V)∧Hid (ss.foldl qhw ks=(ss.drop j).foldl qhw kt)∧Hid (kt.length≤ks.length+j))
   case atStart=>exact⟨0,ks,rfl,by show _=_;omega,HN1,rfl,Nat.le_refl _⟩
   case round =>
    obtain⟨j,kt,rfl,hg2,HN2,HK2,HL2⟩:=hrel
    cases gk with
    |zero =>
     have hlt2:¬(j:Int)<(ss.length:Int):=by have:=hg2.out;omega
     have HE:Hid (ss.foldl qhw ks=kt):=by
      have h:=HK2.out;rw[List.drop_eq_nil_of_le (by have:=hg2.out;omega)] at h;exact h
     go_wp2;go_roundg g
     case measure=>omega
     case rel=>exact⟨k+1,kt,by go_num,by show _=_;have:=hg.out;omega,HN2,by have h:=HK1.out;rw[HE.out] at h;exact h,by show _≤_;have:=HL.out;have:=HL2.out;have:=hg2.out;omega⟩
    |succ g2 =>
     have hjl:j<ss.length:=by have:=hg2.out;omega
     have hlt2:(j:Int)<(ss.length:Int):=by omega
     obtain⟨b2,off2,rfl,hb2,s0,s1⟩:=(HSG.out.below (HN2.out.but.low HW0.out hl)).at_ j hjl;have HK3:Hid (ss.foldl qhw ks=(ss.drop (j+1)).foldl qhw (qhw kt ss[j])):=by
      have h:=HK2.out;rw[List.drop_eq_getElem_cons hjl] at h;exact h
     have HKJ:=qaa (HKL.out j hjl);generalize ss[j]=sg at *;have HN3:Hid (qqj W lm kt (wr.alloc (.cells #[.int .i64 sg.1,.string ⟨sg.2.toArray⟩] 235))):=HN2.out.next bwA
     obtain⟨kd,key⟩:=sg;have HB3:Hid ((wr.alloc (.cells #[.int .i64 kd,.string ⟨key.toArray⟩] 235)).heap[wr.heap.size]? = some (.cells #[.int .i64 kd,.string ⟨key.toArray⟩] 235)):=qac _ _;have HBL:=qaa HN2.out.names.im.lt;clear HN2;go_wp2;generalize wr.alloc (.cells #[.int .i64 kd,.string ⟨key.toArray⟩] 235)=V1 at *;generalize wr.heap.size=M at *;refine rgn (S:=fun Z=>Z.cell? ⟨A,2,none⟩=some (.map (some lm))∧Z.heap[M]? = some (.cells #[.int .i64 kd,.string ⟨key.toArray⟩] 235)∧ImK Z lm kt) (⟨HN3.out.but.cellA hA hAl c2,HB3.out,HN3.out.names⟩) (by kernel_rfl) ?_;intro hS;by_cases hk3:kd=3
     ·subst hk3;by_cases hmem:key∈kt
      ·obtain⟨x,hx⟩:∃x,x=2+kt.idxOf key:=⟨_,rfl⟩
       have HX:Hid ((fnL kt (.string key)).getD 0=x):=by show _=_;rw[qes hmem,hx];rfl
       have hx0:((x:Int)==0)=false:=by simp;omega
       have HAD:Hid (qhw kt (3,key)=kt):=if_neg (fun h=>h.2 hmem);clear hx;refine tkH 0 23 (.pointer (some ⟨M,0,none⟩)) rfl (by kernel_rfl) (fun _ _ _ h=>h) (fun Z hZ=>by kernel_rfl) hS ?_;refine tkH 1 24 (.int .i64 3) rfl (by kernel_rfl) (fun _ _ _ h=>h) (fun Z hZ => ?y1) hS ?_
       case y1=>(have z1:=qab hZ.2.1 0;go_simp)
       refine tkH 2 25 (.bool true) rfl (by kernel_rfl) (fun _ _ _ h=>h) (fun Z hZ=>by kernel_rfl) hS ?_;refine tkH 3 26 (.bool true) rfl (by kernel_rfl) (fun _ _ _ h=>h) (fun Z hZ=>by kernel_rfl) hS ?_;refine tkH 4 27 (.pointer (some ⟨A,0,none⟩)) rfl (by kernel_rfl) (fun _ _ _ h=>h) (fun Z hZ=>by kernel_rfl) hS ?_;refine tkH 5 28 (.pointer (some ⟨A,0,none⟩)) rfl (by kernel_rfl) (fun _ _ _ h=>h) (fun Z hZ=>by kernel_rfl) hS ?_;refine tkH 6 29 (.pointer (some ⟨A,2,none⟩)) rfl (by kernel_rfl) (fun _ _ _ h=>h) (fun Z hZ=>by kernel_rfl) hS ?_;refine tkH 7 30 (.map (some lm)) rfl (by kernel_rfl) (fun _ _ _ h=>h) (fun Z hZ => ?y7) hS ?_
       case y7=>(have z1:=hZ.1;go_simp)
       refine tkH 8 31 (.pointer (some ⟨M,1,none⟩)) rfl (by kernel_rfl) (fun _ _ _ h=>h) (fun Z hZ=>by kernel_rfl) hS ?_;refine tkH 9 32 (.string ⟨key.toArray⟩) rfl (by kernel_rfl) (fun _ _ _ h=>h) (fun Z hZ => ?y9) hS ?_
       case y9=>(have z1:=qab hZ.2.1 1;go_simp)
       refine tkH 10 33 (.int .i64 x) rfl (by kernel_rfl) (fun _ _ _ h=>h) (fun Z hZ => ?y10) hS ?_
       case y10=>(have z3:=qf8 hZ.2.2.im stK underlying159 (ql8 key HKJ.out);rw[HX.out] at z3;go_simp)
       refine tkH 11 34 (.bool false) rfl (by kernel_rfl) (fun _ _ _ h=>h) (fun Z hZ => ?y11) hS ?_
       case y11=>(go_simp)
       refine tkH 12 35 (.bool false) rfl (by kernel_rfl) (fun _ _ _ h=>h) (fun Z hZ=>by kernel_rfl) hS ?_;refine wpAnyH_done (by kernel_rfl) ?_ _;go_simp;have HN4:=qaa (HN3.out.next (Below.refl _ _).drew);go_wp2;go_roundg g2
       case measure=>omega
       case rel=>exact⟨j+1,kt,by go_num,by show _=_;have:=hg2.out;omega,HN4,by have h:=HK3.out;rw[HAD.out] at h;exact h,by show _≤_;have:=HL2.out;omega⟩
      have HX:Hid ((fnL kt (.string key)).getD 0=0):=by show _=_;rw[qdP hmem];rfl
      have HAD:Hid (qhw kt (3,key)=kt++[key]):=if_pos ⟨rfl,hmem⟩;refine tkH 0 23 (.pointer (some ⟨M,0,none⟩)) rfl (by kernel_rfl) (fun _ _ _ h=>h) (fun Z hZ=>by kernel_rfl) hS ?_;refine tkH 1 24 (.int .i64 3) rfl (by kernel_rfl) (fun _ _ _ h=>h) (fun Z hZ => ?y1) hS ?_
      case y1=>(have z1:=qab hZ.2.1 0;go_simp)
      refine tkH 2 25 (.bool true) rfl (by kernel_rfl) (fun _ _ _ h=>h) (fun Z hZ=>by kernel_rfl) hS ?_;refine tkH 3 26 (.bool true) rfl (by kernel_rfl) (fun _ _ _ h=>h) (fun Z hZ=>by kernel_rfl) hS ?_;refine tkH 4 27 (.pointer (some ⟨A,0,none⟩)) rfl (by kernel_rfl) (fun _ _ _ h=>h) (fun Z hZ=>by kernel_rfl) hS ?_;refine tkH 5 28 (.pointer (some ⟨A,0,none⟩)) rfl (by kernel_rfl) (fun _ _ _ h=>h) (fun Z hZ=>by kernel_rfl) hS ?_;refine tkH 6 29 (.pointer (some ⟨A,2,none⟩)) rfl (by kernel_rfl) (fun _ _ _ h=>h) (fun Z hZ=>by kernel_rfl) hS ?_;refine tkH 7 30 (.map (some lm)) rfl (by kernel_rfl) (fun _ _ _ h=>h) (fun Z hZ => ?y7) hS ?_
      case y7=>(have z1:=hZ.1;go_simp)
      refine tkH 8 31 (.pointer (some ⟨M,1,none⟩)) rfl (by kernel_rfl) (fun _ _ _ h=>h) (fun Z hZ=>by kernel_rfl) hS ?_;refine tkH 9 32 (.string ⟨key.toArray⟩) rfl (by kernel_rfl) (fun _ _ _ h=>h) (fun Z hZ => ?y9) hS ?_
      case y9=>(have z1:=qab hZ.2.1 1;go_simp)
      refine tkH 10 33 (.int .i64 0) rfl (by kernel_rfl) (fun _ _ _ h=>h) (fun Z hZ => ?y10) hS ?_
      case y10=>(have z3:=qf8 hZ.2.2.im stK underlying159 (ql8 key HKJ.out);rw[HX.out] at z3;go_simp)
      refine tkH 11 34 (.bool true) rfl (by kernel_rfl) (fun _ _ _ h=>h) (fun Z hZ=>by kernel_rfl) hS ?_;refine tkH 12 35 (.bool true) rfl (by kernel_rfl) (fun _ _ _ h=>h) (fun Z hZ=>by kernel_rfl) hS ?_;refine wpAnyH_done (by kernel_rfl) ?_ _;go_simp;have HN4:=qaa (HN3.out.next (Below.refl _ _).drew);have HB4:Hid ((World.drew V1).heap[M]? = some (.cells #[.int .i64 3,.string ⟨key.toArray⟩] 235)):=HB3.out;clear hS HN3 HB3;generalize World.drew V1=V2 at *;have d2:=HN4.out.but.cellA hA hAl c2;have hlen:=HN4.out.names.len underlying159;have hkt:kt.length≤8*16:=by have:=HL.out;have:=HL2.out;have:=hg.out;have:=hg2.out;omega
      obtain⟨v,hv⟩:∃v,v=2+kt.length:=⟨_,rfl⟩
      have HWR:Hid (wrap64 (2+(kt.length:Int))=(v:Int)):=by show _=_;rw[hv];exact wr2 _ hkt
      have HVV:=qaa hv;clear hv hkt;go_wp2;rw[HWR.out];have HN5:=qaa (HN4.out.next (Below.refl _ _).drew);obtain⟨w7,hr7,hI7,hg7⟩:=qpO HN5.out.names underlying159 (by have:=HL.out;have:=HL2.out;have:=hg.out;have:=hg2.out;omega) HKJ.out hmem;rw[←HVV.out] at hr7;have HN7:Hid (qqj W lm (kt++[key]) w7):=⟨HN5.out.but.trans ⟨hg7.os,hg7.tape,hg7.output,hg7.size,fun i hi hne=>hg7.block i hi (by simpa using hne)⟩,hI7⟩
      have hS7:(fun Z:World=>Z.cell? ⟨A,2,none⟩=some (.map (some lm))∧Z.heap[M]? = some (.cells #[.int .i64 3,.string ⟨key.toArray⟩] 235)) {V2 with drawn:=V2.drawn+1}:=⟨d2,HB4.out⟩
      have hS8:(fun Z:World=>Z.cell? ⟨A,2,none⟩=some (.map (some lm))∧Z.heap[M]? = some (.cells #[.int .i64 3,.string ⟨key.toArray⟩] 235)) w7:=⟨HN7.out.but.cellA hA hAl c2,(hg7.block M (ltA HB4.out) (by have:=HBL.out;simp;omega)).trans HB4.out⟩
      clear hI7 hg7 HN4 HB4;refine wp_region_held (S:=fun Z=>Z.cell? ⟨A,2,none⟩=some (.map (some lm))∧Z.heap[M]? = some (.cells #[.int .i64 3,.string ⟨key.toArray⟩] 235)) (by kernel_rfl) ?_;refine tkH 0 42 (.pointer (some ⟨A,0,none⟩)) rfl (by kernel_rfl) (fun _ _ _ h=>h) (fun Z hZ=>by kernel_rfl) hS7 ?_;refine tkH 1 43 (.pointer (some ⟨A,0,none⟩)) rfl (by kernel_rfl) (fun _ _ _ h=>h) (fun Z hZ=>by kernel_rfl) hS7 ?_;refine tkH 2 44 (.pointer (some ⟨A,2,none⟩)) rfl (by kernel_rfl) (fun _ _ _ h=>h) (fun Z hZ=>by kernel_rfl) hS7 ?_;refine tkH 3 45 (.map (some lm)) rfl (by kernel_rfl) (fun _ _ _ h=>h) (fun Z hZ => ?y3) hS7 ?_
      case y3=>(have z1:=hZ.1;go_simp)
      refine tkH 4 46 (.pointer (some ⟨M,1,none⟩)) rfl (by kernel_rfl) (fun _ _ _ h=>h) (fun Z hZ=>by kernel_rfl) hS7 ?_;refine tkH 5 47 (.string ⟨key.toArray⟩) rfl (by kernel_rfl) (fun _ _ _ h=>h) (fun Z hZ => ?y5) hS7 ?_
      case y5=>(have z1:=qab hZ.2 1;go_simp)
      refine tkH 6 48 (.int .i64 v) rfl (by kernel_rfl) (fun _ _ _ h=>h) (fun Z hZ=>by kernel_rfl) hS7 ?_;refine rdS 7 rfl (by kernel_rfl) (fun K hK => ?_);go_simp;refine hK.out _ _ hS8 (fun _ => ?_);clear hK;refine wpAnyH_done (by kernel_rfl) ?_ _;go_simp;clear hr7;go_wp2;go_roundg g2
      case measure=>omega
      case rel=>exact⟨j+1,kt++[key],by go_num,by show _=_;have:=hg2.out;omega,HN7,by have h:=HK3.out;rw[HAD.out] at h;exact h,by show _≤_;have:=HL2.out;simp;omega⟩
     have hk0:((kd:Int)==3)=false:=by simp;omega
     have HAD:Hid (qhw kt (kd,key)=kt):=if_neg (fun h=>hk3 h.1);refine tkH 0 23 (.pointer (some ⟨M,0,none⟩)) rfl (by kernel_rfl) (fun _ _ _ h=>h) (fun Z hZ=>by kernel_rfl) hS ?_;refine tkH 1 24 (.int .i64 kd) rfl (by kernel_rfl) (fun _ _ _ h=>h) (fun Z hZ => ?y1) hS ?_
     case y1=>(have z1:=qab hZ.2.1 0;go_simp)
     refine tkH 2 25 (.bool false) rfl (by kernel_rfl) (fun _ _ _ h=>h) (fun Z hZ => ?y2) hS ?_
     case y2=>(go_simp)
     refine tkH 3 26 (.bool false) rfl (by kernel_rfl) (fun _ _ _ h=>h) (fun Z hZ=>by kernel_rfl) hS ?_;refine tkU 4 27 rfl (by kernel_rfl) (fun _ _ _ h=>h) hS ?_;refine tkU 5 28 rfl (by kernel_rfl) (fun _ _ _ h=>h) hS ?_;refine tkU 6 29 rfl (by kernel_rfl) (fun _ _ _ h=>h) hS ?_;refine tkU 7 30 rfl (by kernel_rfl) (fun _ _ _ h=>h) hS ?_;refine tkU 8 31 rfl (by kernel_rfl) (fun _ _ _ h=>h) hS ?_;refine tkU 9 32 rfl (by kernel_rfl) (fun _ _ _ h=>h) hS ?_;refine tkU 10 33 rfl (by kernel_rfl) (fun _ _ _ h=>h) hS ?_;refine tkU 11 34 rfl (by kernel_rfl) (fun _ _ _ h=>h) hS ?_;refine tkH 12 35 (.bool false) rfl (by kernel_rfl) (fun _ _ _ h=>h) (fun Z hZ=>by kernel_rfl) hS ?_;refine wpAnyH_done (by kernel_rfl) ?_ _;go_simp;have HN4:=qaa (HN3.out.next (Below.refl _ _).drew);go_wp2;go_roundg g2
     case measure=>omega
     case rel=>exact⟨j+1,kt,by go_num,by show _=_;have:=hg2.out;omega,HN4,by have h:=HK3.out;rw[HAD.out] at h;exact h,by show _≤_;have:=HL2.out;omega⟩
def tkX (ks:List (List UInt8))(s:Nat×List UInt8)(x:Nat):Bool:=if s.1=0 then true else if s.1=1 then false else if s.1=2 then x==1 else x==(fnL ks (.string s.2)).getD 0
def gB (rs:List (List (Nat×List UInt8)×Int×Int))(r p:Nat)(f:Nat×List UInt8→Bool):Bool:=match rs[r]? with
 |some R=>(match R.1[p]? with|some s=>f s|none=>false)
 |none=>false
theorem qwa (hR:rs[r]? = some R)(hs:R.1[p]? = some s)(f:Nat×List UInt8→Bool):gB rs r p f=f s:=by
 unfold gB;rw[hR];show(match R.1[p]? with|some s=>f s|none=>false)=f s;rw[hs]
theorem qpD (hR:rs[r]? = some R)(hp:R.1.length≤p)(f:Nat×List UInt8→Bool):gB rs r p f=false:=by
 unfold gB;rw[hR];show(match R.1[p]? with|some s=>f s|none=>false)=false;rw[List.getElem?_eq_none hp]
theorem qsy (hr:rs.length≤r)(p:Nat)(f:Nat×List UInt8→Bool):gB rs r p f=false:=by
 unfold gB;rw[List.getElem?_eq_none hr]
structure LyM (rs:List (List (Nat×List UInt8)×Int×Int))(ks:List (List UInt8))(i j:Nat)(st:Nat→Nat)(tk:Nat→Nat→Nat):Prop where
 s:∀r p,(st r).testBit p=(decide (r<i∨(r=i∧p<j))&&gB rs r p (fun s=>s.1==1))
 t:∀x r p,(tk x r).testBit p=(decide (r<i∨(r=i∧p<j))&&gB rs r p (fun s=>tkX ks s x))
theorem qos (rs:List (List (Nat×List UInt8)×Int×Int))(ks:List (List UInt8)):LyM rs ks 0 0 (fun _=>0) (fun _ _=>0) :=
 ⟨fun r p=>by simp,fun x r p=>by simp⟩
def stU (st:Nat→Nat)(i j:Nat)(b:Bool):Nat→Nat:=fun r=>if r=i∧b=true then st r ||| 2^j else st r
theorem qvF (x j p:Nat):(x ||| 2^j).testBit p=(x.testBit p||decide (p=j)):=by
 rw[Nat.testBit_or,Nat.testBit_two_pow];congr 1;exact decide_eq_decide.2 ⟨fun h=>h.symm,fun h=>h.symm⟩
theorem qo5 {f:Nat×List UInt8→Bool}(hR:rs[i]? = some R)(hs:R.1[j]? = some s)(h:∀r p,(st r).testBit p=(decide (r<i∨(r=i∧p<j))&&gB rs r p f))(r p:Nat):(stU st i j (f s) r).testBit p=(decide (r<i∨(r=i∧p<j+1))&&gB rs r p f):=by
 unfold stU;by_cases hr:r=i
 ·subst hr
  cases hb:f s with
  |true =>
   rw[if_pos ⟨rfl,rfl⟩,qvF,h];by_cases hp:p=j
   ·subst hp;rw[qwa hR hs,hb];simp
   have e:decide (r<r∨r=r∧p<j)=decide (r<r∨r=r∧p<j+1):=decide_eq_decide.2 (by omega);rw[e,decide_eq_false hp,Bool.or_false]
  |false =>
   rw[if_neg (by simp),h];by_cases hp:p=j
   ·subst hp;rw[qwa hR hs,hb];simp
   have e:decide (r<r∨r=r∧p<j)=decide (r<r∨r=r∧p<j+1):=decide_eq_decide.2 (by omega);rw[e]
 rw[if_neg (fun hh=>hr hh.1),h];have e:(r<i∨r=i∧p<j)=(r<i∨r=i∧p<j+1):=by simp[hr]
 simp only[e]
theorem LyM.place (h:LyM rs ks i j st tk)(hR:rs[i]? = some R)(hs:R.1[j]? = some s):LyM rs ks i (j+1) (stU st i j (s.1==1)) (fun x=>stU (tk x) i j (tkX ks s x)) :=
 ⟨fun r p=>qo5 (f:=fun s=>s.1==1) hR hs h.s r p,fun x r p=>qo5 (f:=fun s=>tkX ks s x) hR hs (h.t x) r p⟩
theorem LyM.rule (h:LyM rs ks i j st tk)(hR:rs[i]? = some R)(hj:R.1.length≤j):LyM rs ks (i+1) 0 st tk:=by
 have key:∀(f:Nat×List UInt8→Bool) (r p:Nat),(decide (r<i∨(r=i∧p<j))&&gB rs r p f)=(decide (r<i+1∨(r=i+1∧p<0))&&gB rs r p f):=by
  intro f r p;by_cases hr:r=i
  ·subst hr;by_cases hp:p<j
   ·simp[hp]
   rw[qpD hR (by omega)];simp
  have e:(r<i∨r=i∧p<j)=(r<i+1∨r=i+1∧p<0):=by simp[hr];omega
  simp only[e]
 exact⟨fun r p=>(h.s r p).trans (key _ r p),fun x r p=>(h.t x r p).trans (key _ r p)⟩
structure LyD (rs:List (List (Nat×List UInt8)×Int×Int))(ks:List (List UInt8))(st:Nat→Nat)(tk:Nat→Nat→Nat):Prop where
 s:∀r p,(st r).testBit p=gB rs r p (fun s=>s.1==1)
 t:∀x r p,(tk x r).testBit p=gB rs r p (fun s=>tkX ks s x)
theorem LyM.done (h:LyM rs ks i 0 st tk)(hi:rs.length≤i):LyD rs ks st tk:=by
 have key:∀(f:Nat×List UInt8→Bool) (r p:Nat),(decide (r<i∨(r=i∧p<0))&&gB rs r p f)=gB rs r p f:=by
  intro f r p;by_cases hr:r<i
  ·simp[hr]
  rw[qsy (by omega)];simp
 exact⟨fun r p=>(h.s r p).trans (key _ r p),fun x r p=>(h.t x r p).trans (key _ r p)⟩
theorem qrl {x:Nat}(h:∀p,8≤p→x.testBit p=false):x<256:=Nat.lt_pow_two_of_testBit (n:=8) x (fun p hp=>h p hp)
theorem qlO (h8:∀i (h:i<rs.length),rs[i].1.length≤8)(r p:Nat)(hp:8≤p)(f:Nat×List UInt8→Bool):gB rs r p f=false:=by
 by_cases hr:r<rs.length
 ·exact qpD (List.getElem?_eq_getElem hr) (Nat.le_trans (h8 r hr) hp) f
 exact qsy (by omega) p f
theorem LyM.lt (h:LyM rs ks i j st tk)(h8:∀i (h:i<rs.length),rs[i].1.length≤8):(∀r,st r<256)∧∀x r,tk x r<256 :=
 ⟨fun r=>qrl fun p hp=>by rw[h.s,qlO h8 r p hp];simp,fun x r=>qrl fun p hp=>by rw[h.t,qlO h8 r p hp];simp⟩
end
end Go.Proofs.YtllcbnfmihfaaaaGreatDoor
