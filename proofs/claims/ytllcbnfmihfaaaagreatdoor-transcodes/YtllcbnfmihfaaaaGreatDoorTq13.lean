import Derived.Laws.IdiomStrings
import Derived.Test.YtllcbnfmihfaaaaGreatDoorTq08
import Derived.Test.YtllcbnfmihfaaaaGreatDoorTq06
set_option maxRecDepth 100000
set_option maxHeartbeats 8000000
namespace Go.Proofs.YtllcbnfmihfaaaaGreatDoor
open Go.Proofs.Tryz
variable {acc acc' bs:List UInt8}{c:UInt8}{lim r:Int}{b base k n p q size wh wh':Nat}{Q:Exit→Act→World→Prop}{a:Act}{V V' W w:World}{s:Src}{fv v:Value}{xs:List Value}{ds:List (DataW Unit)}
section
open Go.RowKit Go.Lib
theorem qo8 {l:List UInt8}(hp:qst l=true)(h:qc1 l c=1):qst (l++[c])=true:=by
 match l,hp with
 |[],_ =>
  unfold qc1 at h;simp only[] at h;split at h
  ·cases h
  split at h
  ·cases h
  exact decide_eq_true (by omega)
 |[b0],hp =>
  have hs:=of_decide_eq_true hp;unfold qc1 at h;simp only[] at h;split at h
  ·cases h
  split at h
  ·cases h
  exact decide_eq_true (by omega)
 |[b0,b1],hp =>
  have hs:=of_decide_eq_true hp;have hb:=qhF (b:=b0) (by omega);unfold qc1 at h;simp only[] at h;split at h
  ·cases h
  split at h
  ·cases h
  exact decide_eq_true (by omega)
 |[b0,b1,b2],hp =>
  unfold qc1 at h;simp only[] at h;split at h
  ·cases h
  cases h
def qfe (bs:List UInt8)(lim:Int):Nat→Nat→List UInt8→Nat→Except (Int×Int) (List UInt8×Nat)
 |0,p,_,_=>.error (9,p)
 |g+1,p,acc,wh=>match bs[p]? with
  |none=>.error (9,p)
  |some c=>if (p:Int)=lim then .error (8,p) else
   if c.toNat=34∧wh=acc.length then .ok (acc,p+1) else
   if c.toNat=92∧wh=acc.length then (match qnj bs lim (p+1) with
    |.error e=>.error e
    |.ok (r,q)=>qfe bs lim g q (acc++qcD r) (acc++qcD r).length) else
   if c.toNat<32 then .error (9,p) else if qc1 (acc.drop wh) c=0 then .error (9,p) else
   qfe bs lim g (p+1) (acc++[c]) (if qc1 (acc.drop wh) c=2 then acc.length+1 else wh)
theorem qmU (h:qgy bs lim p=.ok (r,q)):(0≤r∧r≤1114111)∧p+4≤q:=by
 unfold qgy at h;split at h
 ·cases h
 next x q1 hx =>
 obtain⟨hx1,hx2⟩:=qi9 hx;split at h
 ·cases h
 split at h
 ·next hhi =>
  have hh:=of_decide_eq_true (show decide (55296≤x∧x≤56319)=true from hhi);split at h
  ·cases h
  next q2 hr =>
  split at h
  ·cases h
  next y q3 hy =>
  obtain⟨hy1,hy2⟩:=qi9 hy;split at h
  ·next hlo =>
   have hl:=of_decide_eq_true (show decide (56320≤y∧y≤57343)=true from hlo);cases h;have:q1≤q2:=by
    unfold qaT at hr;split at hr
    ·cases hr
    split at hr
    ·cases hr
    split at hr
    ·unfold qaT at hr;split at hr
     ·cases hr
     split at hr
     ·cases hr
     split at hr
     ·unfold qaT at hr;cases hr;omega
     cases hr
    cases hr
   omega
  cases h
 cases h;simp at hx1;omega
theorem qjf (h:qnj bs lim p=.ok (r,q)):(0≤r∧r≤1114111)∧p+1≤q:=by
 unfold qnj at h;split at h
 ·cases h
 split at h
 ·cases h
 repeat' split at h
 all_goals first
  |(cases h;omega)
  |(have:=qmU h;omega)
  |cases h
theorem qja {wf:Nat}(hle:wh≤acc.length)(hp:qst (acc.drop wh)=true)(h0:¬qc1 (acc.drop wh) c=0)(hwf:(if qc1 (acc.drop wh) c=2 then acc.length+1 else wh)=wf):qst ((acc++[c]).drop wf)=true:=by
 by_cases h2:qc1 (acc.drop wh) c=2
 ·rw[if_pos h2] at hwf;subst hwf;rw[List.drop_eq_nil_of_le (by simp)];rfl
 rw[if_neg h2] at hwf;subst hwf;rw[List.drop_append_of_le_length hle];refine qo8 hp ?_;have hk:qc1 (acc.drop wh) c=0∨qc1 (acc.drop wh) c=1∨qc1 (acc.drop wh) c=2:=by
  unfold qc1
  repeat' split
  all_goals simp
 omega
theorem qfO (h:Q .ret a w):Exit.noGoto Q .ret a w:=h
structure qiK (W:World)(b:Nat)(s:Src)(p:Nat)(acc:List UInt8)(wh:Nat)(V:World):Prop where
 src:qad V b {s with pos:=p}
 but:But b W V
 box:V.heap[W.heap.size]? = some (.cells #[.pointer (some ⟨b,0,none⟩)] 198)
 gat:qck V (W.heap.size+1) (W.heap.size+2) acc wh
theorem qiK.take (h:qiK W b s p acc wh V)(hb:b<W.heap.size)(hs:qad V' b {s with pos:=q})(hB:But b V V'):qiK W b s q acc wh V' :=
 ⟨hs,h.but.trans hB,(hB.block _ (ltA h.box) (by omega)).trans h.box,h.gat.but hB (by omega) (by omega)⟩
theorem qiK.below (h:qiK W b s p acc wh V)(hB:Below V.heap.size V V'):qiK W b s p acc wh V' :=
 ⟨h.src.below hB,h.but.trans (But.of_below hB),(hB.block _ (ltA h.box)).trans h.box,h.gat.below hB⟩
theorem qiK.keep (h:qiK W b s p acc wh V)(h0:qad W b s)(hK:qcH (W.heap.size+1) (W.heap.size+2) V V')(hg:qck V' (W.heap.size+1) (W.heap.size+2) acc' wh'):qiK W b s p acc' wh' V' :=
 ⟨h0.same rfl rfl h.src (fun k hk=>hK.block k (by omega) (by omega)),⟨hK.os.trans h.but.os,hK.tape.trans h.but.tape,hK.output.trans h.but.output,Nat.le_trans h.but.size hK.size,fun k hk hn=>(hK.block k (by omega) (by omega)).trans (h.but.block k hk hn)⟩,(hK.block _ (by omega) (by omega)).trans h.box,hg⟩
theorem qle:∀w:World,(convert 28 9 (.slice none 0 0)).run prog w=.ok (.string ⟨#[]⟩) w:=fun w=>by kernel_rfl
theorem qkU (h:Own W base v bs):(convert 28 9 v).run prog W=.ok (.string ⟨bs.toArray⟩) W:=by
 have h':=h;obtain⟨⟨h1,h2⟩,h3,h4⟩:=h;rcases h2 with ⟨rfl,h0⟩|⟨g,cap,cur,rfl,h5⟩
 ·have:bs=[]:=List.eq_nil_of_length_eq_zero h0;subst this;exact qle W
 refine run_convert_bytes_back W 28 9 5 ⟨g,0,none⟩ cap bs underlying28 underlying5 underlying9 ?_;intro j hj;have e:(⟨g,0,none⟩:Addr).add j=⟨g,j,none⟩:=by by_cases h:j=0<;>simp[Addr.add,h]
 rw[e];exact(qcB h').2 j hj
theorem qtN (h:qad W b s):qiK W b s s.pos [] 0 ((W.alloc (.cells #[.pointer (some ⟨b,0,none⟩)] 198)).alloc (.cells #[.slice none 0 0,.int .i64 0] 409)):=by
 have hB:Below W.heap.size W ((W.alloc (.cells #[.pointer (some ⟨b,0,none⟩)] 198)).alloc (.cells #[.slice none 0 0,.int .i64 0] 409)):=(bwA).alloc (by simp) _;have hg:=qac (W.alloc (.cells #[.pointer (some ⟨b,0,none⟩)] 198)) (.cells #[.slice none 0 0,.int .i64 0] 409);rw[World.size_alloc] at hg;refine⟨h.below hB,But.of_below hB,?_,⟨⟨_,hg,?_⟩,by omega,Nat.le_refl _⟩⟩
 ·have h0:=qac W (.cells #[.pointer (some ⟨b,0,none⟩)] 198);exact(Below.heap_alloc _ _ _ (by simp)).trans h0
 refine⟨World.ownsRow_nil _ _ _ _,?_,none,0,0,rfl⟩;simp
theorem qeQ (W:World)(b:Nat)(s:Src)(h:qad W b s)(ht:U8 W)(h7:7<b)(hlen:s.bs.length≤200000000):Calls prog 299 #[.agg #[.pointer (some ⟨b,0,none⟩)]] W (qbJ W b s (fun l:List UInt8=>.string ⟨l.toArray⟩) (qfe s.bs s.lim (s.bs.length+1-s.pos) s.pos [] 0)):=by
 have HX0:=qaa (qtN h);have HS0:=qaa h;have HT:=qaa ht;have hbN:=ltA h.row;have hle:=h.le;obtain⟨R,HR⟩:∃R,Hid (qfe s.bs s.lim (s.bs.length+1-s.pos) s.pos [] 0=R):=⟨_,show _=_ from rfl⟩
 rw[HR.out];go_enter func299,ntmps299;go_wp2;go_step3;go_wp2;go_step3;go_wp2;generalize (W.alloc (.cells #[.pointer (some ⟨b,0,none⟩)] 198)).alloc (.cells #[.slice none 0 0,.int .i64 0] 409)=W0 at *
 go_loopg [4,8] (s.bs.length+1-s.pos) (fun g _ _ wr=>∃(p:Nat) (acc:List UInt8) (wh:Nat),Hid (s.bs.length+1≤p+g)∧Hid (p≤s.bs.length)∧Hid (acc.length≤4*p)∧Hid (qst (acc.drop wh)=true)∧Hid (qiK W b s p acc wh wr)∧Hid (qfe s.bs s.lim g p acc wh=R))
 case atStart=>exact⟨s.pos,[],0,by show _≤_;omega,hle,by show 0≤_;omega,rfl,HX0,HR⟩
 case round =>
  obtain⟨p,acc,wh,hg,hp,ha,hpe,HX,HR⟩:=hrel;obtain⟨g,rfl⟩:∃g,gk=g+1:=⟨gk-1,by have:=hg.out;have:=hp.out;omega⟩
  have kb:=qab HX.out.box 0;have HU:Hid (∀V,But b W V→U8 V):=by
   show ∀V,_;intro V hV;have hc:∀(q off:Nat) (v:Value),q≤7→W.cell? ⟨q,off,none⟩=some v→V.cell? ⟨q,off,none⟩=some v:=fun q off v hq hv=>(World.cell?_of_block (w:=W) (hV.block q (by omega) (by omega))).trans hv;exact⟨fun c hc'=>hc _ _ _ (by decide) (HT.out.1 c hc'),fun i hi=>⟨hc _ _ _ (by decide) (HT.out.2 i hi).1,hc _ _ _ (by decide) (HT.out.2 i hi).2⟩⟩
  rcases qaM HX.out.src with h1|h1|⟨c,h1⟩
  ·have HE:Hid (R=.error (9,(p:Int))):=by
    show _=_;rw[←HR.out,qfe,List.getElem?_eq_none (by have:p=s.bs.length:=h1;omega)]
   have cT:=qbm _ b {s with pos:=p} HX.out.src h1
   go_wp2_with (first
    |(go_at_call 294;refine cT.mono ?_;rintro e w2 ⟨hF,hB⟩;obtain rfl:=hF))
   rw[HE.out];exact⟨rfl,HX.out.but.trans (But.of_below hB),rfl⟩
  ·have HE:Hid (R=.error (8,(p:Int))):=by
    show _=_;have h2:(p:Int)=s.lim:=h1.2;have h3:p<s.bs.length:=h1.1;rw[←HR.out,qfe,List.getElem?_eq_getElem h3];simp only[];rw[if_pos h2]
   have cT:=qaP _ b {s with pos:=p} HX.out.src h1
   go_wp2_with (first
    |(go_at_call 294;refine cT.mono ?_;rintro e w2 ⟨hF,hB⟩;obtain rfl:=hF))
   rw[HE.out];exact⟨rfl,HX.out.but.trans (But.of_below hB),rfl⟩
  have hc1:s.bs[p]? = some c:=h1.1;have hc2:¬(p:Int)=s.lim:=h1.2;have HPL:Hid (p<s.bs.length):=h1.lt;have hr:=HR.out;rw[qfe,hc1] at hr;simp only[] at hr;rw[if_neg hc2] at hr;have cT:Calls prog 294 #[.pointer (some ⟨b,0,none⟩)] wr fun e W'=>e=.returned (.int .u8 c.toNat)∧qad W' b {s with pos:=p+1}∧But b wr W':=qau _ b {s with pos:=p} c HX.out.src h1;have cW:=fun V (hV:qiK W b s (p+1) acc wh V)=>qgq V (W.heap.size+1) (W.heap.size+2) acc wh hV.gat;have hC:(wh=acc.length∧c.toNat=34)∨(wh=acc.length∧c.toNat=92)∨(wh=acc.length∧c.toNat≠34∧c.toNat≠92)∨(wh≠acc.length∧c.toNat=34)∨(wh≠acc.length∧c.toNat=92)∨(wh≠acc.length∧c.toNat≠34∧c.toNat≠92):=by omega
  rcases hC with ⟨hw,g34⟩|⟨hw,g92⟩|⟨hw,g34,g92⟩|⟨hw,g34⟩|⟨hw,g92⟩|⟨hw,g34,g92⟩
  ·rw[decide_eq_true hw] at cW;rw[if_pos ⟨g34,hw⟩] at hr;subst hr;have f34:((c.toNat:Int)==34)=true:=by simp;omega
   go_wp2_with (first
    |(go_at_call 294;refine cT.mono ?_;rintro e w2 ⟨rfl,hS,hB⟩;have HX2:=qaa (HX.out.take hbN hS hB))
    |(go_at_call 305;refine(cW _ HX2.out).mono ?_;rintro e w3 ⟨rfl,hB⟩;have HX3:=qaa (HX2.out.below hB);obtain⟨v3,r3,o3⟩:=HX3.out.gat.row;obtain⟨_,_,a3,n3,c3,rfl⟩:=(show Own w3 _ _ _ from o3);have hcv:=qkU o3;have k3:=qab r3 0))
   refine qfO ?_;go_ret;exact⟨HX3.out.but,rfl,HX3.out.src⟩
  ·rw[decide_eq_true hw] at cW;rw[if_neg (fun hh=>by omega),if_pos ⟨g92,hw⟩] at hr;have f34:=nec (c:=c) 34 (by omega);have f92:((c.toNat:Int)==92)=true:=by simp;omega
   have cE:=fun V (hV:qiK W b s (p+1) acc wh V)=>qgJ V b {s with pos:=p+1} hV.src;rcases he:qnj s.bs s.lim (p+1) with ⟨en,pl⟩|⟨r,q⟩
   ·rw[he] at hr;have cE2:∀V,qiK W b s (p+1) acc wh V→Calls prog 307 #[.agg #[.pointer (some ⟨b,0,none⟩)]] V (qbJ V b {s with pos:=p+1} (fun x:Int=>.int .i32 x) (.error (en,pl))):=by rw[←he];exact cE
    subst hr
    go_wp2_with (first
     |(go_at_call 294;refine cT.mono ?_;rintro e w2 ⟨rfl,hS,hB⟩;have HX2:=qaa (HX.out.take hbN hS hB);have kb:=qab HX2.out.box 0)
     |(go_at_call 305;refine(cW _ HX2.out).mono ?_;rintro e w3 ⟨rfl,hB⟩;have HX3:=qaa (HX2.out.below hB);have HX2:=HX3;have kb:=qab HX2.out.box 0)
     |(go_at_call 307;refine(cE2 _ HX2.out).mono ?_;rintro e w5 ⟨hB,hF⟩;obtain rfl:=hF))
    exact⟨rfl,HX2.out.but.trans hB,rfl⟩
   rw[he] at hr;simp only[] at hr;have cE2:∀V,qiK W b s (p+1) acc wh V→Calls prog 307 #[.agg #[.pointer (some ⟨b,0,none⟩)]] V (qbJ V b {s with pos:=p+1} (fun x:Int=>.int .i32 x) (.ok (r,q))):=by rw[←he];exact cE
   have hfit:=qjf he;have hf1:=hfit.1.1;have hf2:=hfit.1.2;have HF3:=qaa hfit.2;have HN:=qaa hr;have cC:=fun V (hV:qiK W b s q acc wh V)=>qfd V (W.heap.size+1) (W.heap.size+2) acc wh r (by omega) (by omega) hV.gat (by have:=ha.out;have:=hp.out;omega);have HRB:=qaa ((qcg r).2)
   go_wp2_with (first
    |(go_at_call 294;refine cT.mono ?_;rintro e w2 ⟨rfl,hS,hB⟩;have HX2:=qaa (HX.out.take hbN hS hB);have kb:=qab HX2.out.box 0)
    |(go_at_call 305;refine(cW _ HX2.out).mono ?_;rintro e w3 ⟨rfl,hB⟩;have HX3:=qaa (HX2.out.below hB);have HX2:=HX3;have kb:=qab HX2.out.box 0)
    |(go_at_call 307;refine(cE2 _ HX2.out).mono ?_;rintro e w5 ⟨hB,rfl,hS⟩;have HX5:=qaa (HX2.out.take hbN hS hB))
    |(go_at_call 306;refine(cC _ HX5.out).mono ?_;rintro e w6 ⟨rfl,hK6,hG6⟩;have HX6:=qaa (HX5.out.keep HS0.out hK6 hG6)))
   go_roundg g
   case measure=>omega
   case rel=>exact⟨q,acc++qcD r,(acc++qcD r).length,by show _≤_;have:=hg.out;have:=HF3.out;omega,HX6.out.src.le,by show _≤_;rw[List.length_append];have:=ha.out;have:=HF3.out;have:=HRB.out;omega,by show _=_;rw[List.drop_length];rfl,HX6,HN⟩
  all_goals
   first|rw[decide_eq_true hw] at cW|rw[decide_eq_false hw] at cW
   first|have f34:((c.toNat:Int)==34)=true:=(by simp;omega)|have f34:=nec (c:=c) 34 (by omega)
   first|have f92:((c.toNat:Int)==92)=true:=(by simp;omega)|have f92:=nec (c:=c) 92 (by omega)
   rw[if_neg (fun hh=>by omega),if_neg (fun hh=>by omega)] at hr;by_cases h32:c.toNat<32
   ·rw[if_pos h32] at hr;subst hr;have f32:decide ((c.toNat:Int)<32)=true:=by simp;omega
    first
    |exact absurd h32 (by omega)
    |clear h32
     try clear g34
     try clear g92
     go_wp2_with (first
      |(go_at_call 294;refine cT.mono ?_;rintro e w2 ⟨rfl,hS,hB⟩;have HX2:=qaa (HX.out.take hbN hS hB);have kb:=qab HX2.out.box 0)
      |(go_at_call 305;refine(cW _ HX2.out).mono ?_;rintro e w3 ⟨rfl,hB⟩;have HX3:Hid (qiK W b s (p+1) acc wh w3):=HX2.out.below hB;have HX2:=HX3;have kb:=qab HX2.out.box 0)
      |(go_at_call 295;refine(qat _ b {s with pos:=p+1} _ HX2.out.src).mono ?_;rintro e w7 ⟨hF,rfl⟩;obtain rfl:=hF))
     exact⟨rfl,HX2.out.but,by show qao _ _ _;unfold qao qeh;simp⟩
   rw[if_neg h32] at hr;have f32:decide ((c.toNat:Int)<32)=false:=by simp;omega
   try clear g34
   try clear g92
   obtain⟨wf,HWF⟩:∃wf,Hid ((if qc1 (acc.drop wh) c=2 then acc.length+1 else wh)=wf):=⟨_,show _=_ from rfl⟩
   have cAdd:=fun V (hV:qiK W b s (p+1) acc wh V)=>qp8 V (W.heap.size+1) (W.heap.size+2) acc wh c hV.gat hpe.out (HU.out V hV.but) (by omega) (by have:=ha.out;have:=hp.out;omega);rw[HWF.out] at cAdd;by_cases h0:qc1 (acc.drop wh) c=0
   ·rw[if_pos h0] at hr;subst hr;have hb0:(qc1 (acc.drop wh) c != 0)=false:=by rw[h0];rfl
    rw[hb0] at cAdd
    go_wp2_with (first
     |(go_at_call 294;refine cT.mono ?_;rintro e w2 ⟨rfl,hS,hB⟩;have HX2:=qaa (HX.out.take hbN hS hB);have kb:=qab HX2.out.box 0)
     |(go_at_call 305;refine(cW _ HX2.out).mono ?_;rintro e w3 ⟨rfl,hB⟩;have HX3:=qaa (HX2.out.below hB);have HX2:=HX3;have kb:=qab HX2.out.box 0)
     |(go_at_call 308;refine(cAdd _ HX2.out).mono ?_;rintro e w4 ⟨rfl,hK4,hG4⟩;have HX4:=qaa (HX2.out.keep HS0.out hK4 hG4);have kb:=qab HX4.out.box 0)
     |(go_at_call 295;refine(qat _ b {s with pos:=p+1} _ HX4.out.src).mono ?_;rintro e w7 ⟨hF,rfl⟩;obtain rfl:=hF))
    exact⟨rfl,HX4.out.but,by show qao _ _ _;unfold qao qeh;simp⟩
   rw[if_neg h0,HWF.out] at hr;have HN:=qaa hr;have hb0:(qc1 (acc.drop wh) c != 0)=true:=by simpa using h0
   rw[hb0] at cAdd;have HP2:=qaa (qja HX.out.gat.le hpe.out h0 HWF.out)
   go_wp2_with (first
    |(go_at_call 294;refine cT.mono ?_;rintro e w2 ⟨rfl,hS,hB⟩;have HX2:=qaa (HX.out.take hbN hS hB);have kb:=qab HX2.out.box 0)
    |(go_at_call 305;refine(cW _ HX2.out).mono ?_;rintro e w3 ⟨rfl,hB⟩;have HX3:=qaa (HX2.out.below hB);have HX2:=HX3;have kb:=qab HX2.out.box 0)
    |(go_at_call 308;refine(cAdd _ HX2.out).mono ?_;rintro e w4 ⟨rfl,hK4,hG4⟩;have HX4:=qaa (HX2.out.keep HS0.out hK4 hG4);have kb:=qab HX4.out.box 0))
   go_roundg g
   case measure=>omega
   case rel=>exact⟨p+1,acc++[c],wf,by show _≤_;have:=hg.out;omega,HPL,by show _≤_;rw[List.length_append];have:=ha.out;simp;omega,HP2,HX4,HN⟩
def qfg (bs:List UInt8)(lim:Int):Nat→Nat→List UInt8→Nat→Except (Int×Int) (List UInt8×Nat)
 |0,p,acc,wh=>if wh=acc.length then .ok (acc,p) else .error (9,(p:Int)-1)
 |k+1,p,acc,wh=>match bs[p]? with
  |none=>.error (9,p)
  |some c=>if (p:Int)=lim then .error (8,p) else if qc1 (acc.drop wh) c=0 then .error (9,p) else
   qfg bs lim k (p+1) (acc++[c]) (if qc1 (acc.drop wh) c=2 then acc.length+1 else wh)
structure qnb (W:World)(b:Nat)(fv:Value)(s:Src)(p:Nat)(acc:List UInt8)(wh:Nat)(V:World):Prop where
 src:qad V b {s with pos:=p}
 but:But b W V
 box:V.heap[W.heap.size]? = some (.cells #[.pointer (some ⟨b,0,none⟩),fv] 201)
 gat:qck V (W.heap.size+1) (W.heap.size+2) acc wh
theorem qnb.take (h:qnb W b fv s p acc wh V)(hb:b<W.heap.size)(hs:qad V' b {s with pos:=q})(hB:But b V V'):qnb W b fv s q acc wh V' :=
 ⟨hs,h.but.trans hB,(hB.block _ (ltA h.box) (by omega)).trans h.box,h.gat.but hB (by omega) (by omega)⟩
theorem qnb.below (h:qnb W b fv s p acc wh V)(hB:Below V.heap.size V V'):qnb W b fv s p acc wh V' :=
 ⟨h.src.below hB,h.but.trans (But.of_below hB),(hB.block _ (ltA h.box)).trans h.box,h.gat.below hB⟩
theorem qnb.keep (h:qnb W b fv s p acc wh V)(h0:qad W b s)(hK:qcH (W.heap.size+1) (W.heap.size+2) V V')(hg:qck V' (W.heap.size+1) (W.heap.size+2) acc' wh'):qnb W b fv s p acc' wh' V' :=
 ⟨h0.same rfl rfl h.src (fun k hk=>hK.block k (by omega) (by omega)),⟨hK.os.trans h.but.os,hK.tape.trans h.but.tape,hK.output.trans h.but.output,Nat.le_trans h.but.size hK.size,fun k hk hn=>(hK.block k (by omega) (by omega)).trans (h.but.block k hk hn)⟩,(hK.block _ (by omega) (by omega)).trans h.box,hg⟩
theorem qu3 (fv:Value)(h:qad W b s):qnb W b fv s s.pos [] 0 ((W.alloc (.cells #[.pointer (some ⟨b,0,none⟩),fv] 201)).alloc (.cells #[.slice none 0 0,.int .i64 0] 409)):=by
 have hB:Below W.heap.size W ((W.alloc (.cells #[.pointer (some ⟨b,0,none⟩),fv] 201)).alloc (.cells #[.slice none 0 0,.int .i64 0] 409)):=(bwA).alloc (by simp) _;have hg:=qac (W.alloc (.cells #[.pointer (some ⟨b,0,none⟩),fv] 201)) (.cells #[.slice none 0 0,.int .i64 0] 409);rw[World.size_alloc] at hg;refine⟨h.below hB,But.of_below hB,?_,⟨⟨_,hg,?_⟩,by omega,Nat.le_refl _⟩⟩
 ·have h0:=qac W (.cells #[.pointer (some ⟨b,0,none⟩),fv] 201);exact(Below.heap_alloc _ _ _ (by simp)).trans h0
 refine⟨World.ownsRow_nil _ _ _ _,?_,none,0,0,rfl⟩;simp
theorem qep (W:World)(b:Nat)(s:Src)(f n:Nat)(hn:n<18446744073709551616)(h:qad W b s)(ht:U8 W)(h7:7<b)(hlen:s.bs.length≤200000000):Calls prog 329 #[.agg #[.pointer (some ⟨b,0,none⟩),.func (.func f) #[] #[]],.int .u64 n] W (qgc W b s (fun l:List UInt8=>.string ⟨l.toArray⟩) (qfg s.bs s.lim n s.pos [] 0)):=by
 have HX0:Hid (qnb W b (.func (.func f) #[] #[]) s s.pos [] 0 ((W.alloc (.cells #[.pointer (some ⟨b,0,none⟩),.func (.func f) #[] #[]] 201)).alloc (.cells #[.slice none 0 0,.int .i64 0] 409))):=qu3 _ h;have HS0:=qaa h;have HT:=qaa ht;have hbN:=ltA h.row;have hle:=h.le;obtain⟨R,HR⟩:∃R,Hid (qfg s.bs s.lim n s.pos [] 0=R):=⟨_,show _=_ from rfl⟩
 rw[HR.out];clear h ht;go_enter func329,ntmps329;go_wp2;generalize (W.alloc (.cells #[.pointer (some ⟨b,0,none⟩),.func (.func f) #[] #[]] 201)).alloc (.cells #[.slice none 0 0,.int .i64 0] 409)=W0 at *
 go_loopg [7] n (fun g z wr=>∃(k p:Nat) (acc:List UInt8) (wh:Nat),z=.int .u64 k∧Hid (k+g=n)∧Hid (p≤s.bs.length)∧Hid (acc.length≤p)∧Hid (qst (acc.drop wh)=true)∧Hid (qnb W b (.func (.func f) #[] #[]) s p acc wh wr)∧Hid (qfg s.bs s.lim g p acc wh=R))
 case atStart=>exact⟨0,s.pos,[],0,rfl,by show _=_;omega,hle,by show 0≤_;omega,rfl,HX0,HR⟩
 case round =>
  clear HX0 HR;obtain⟨k,p,acc,wh,rfl,hg,hp,ha,hpe,HX,HR⟩:=hrel;have kb:=qab HX.out.box 0;have HU:Hid (∀V,But b W V→U8 V):=by
   show ∀V,_;intro V hV;have hc:∀(q off:Nat) (v:Value),q≤7→W.cell? ⟨q,off,none⟩=some v→V.cell? ⟨q,off,none⟩=some v:=fun q off v hq hv=>(World.cell?_of_block (w:=W) (hV.block q (by omega) (by omega))).trans hv;exact⟨fun c hc'=>hc _ _ _ (by decide) (HT.out.1 c hc'),fun i hi=>⟨hc _ _ _ (by decide) (HT.out.2 i hi).1,hc _ _ _ (by decide) (HT.out.2 i hi).2⟩⟩
  cases gk with
  |zero =>
   have hk:k=n:=by have:=hg.out;omega
   subst hk;have hr:=HR.out;rw[qfg] at hr;have cW:=qgq wr (W.heap.size+1) (W.heap.size+2) acc wh HX.out.gat;clear HR hg;by_cases hw:wh=acc.length
   ·rw[if_pos hw] at hr;subst hr;rw[decide_eq_true hw] at cW;clear hw
    go_wp2_with (first
     |(go_at_call 305;refine cW.mono ?_;clear cW kb;rintro e w3 ⟨rfl,hB⟩;have HX3:=qaa (HX.out.below hB);clear HX hB;obtain⟨v3,r3,o3⟩:=HX3.out.gat.row;obtain⟨_,_,a3,n3,c3,rfl⟩:=(show Own w3 _ _ _ from o3);have hcv:=qkU o3;have k3:=qab r3 0))
    go_ret;exact⟨HX3.out.but,rfl,HX3.out.src⟩
   rw[if_neg hw] at hr;subst hr;rw[decide_eq_false hw] at cW;clear hw
   go_wp2_with (first
    |(go_at_call 305;refine cW.mono ?_;clear cW kb;rintro e w3 ⟨rfl,hB⟩;have HX3:=qaa (HX.out.below hB);clear HX hB;have kb:=qab HX3.out.box 0)
    |(go_at_call 295;refine(qat _ b {s with pos:=p} _ HX3.out.src).mono ?_;rintro e w7 ⟨hF,rfl⟩;obtain rfl:=hF))
   exact⟨rfl,HX3.out.but,rfl,_,HX3.out.src⟩
  |succ g =>
   have hkn:k<n:=by have:=hg.out;omega
   have e1:decide ((k:Int)<(n:Int))=true:=by simp;omega
   have e2:decide (k<n)=true:=by simp;omega
   rcases qaM HX.out.src with h1|h1|⟨c,h1⟩
   ·have HE:Hid (R=.error (9,(p:Int))):=by
     show _=_;rw[←HR.out,qfg,List.getElem?_eq_none (by have:p=s.bs.length:=h1;omega)]
    have cT:=qbm _ b {s with pos:=p} HX.out.src h1;clear HR h1
    go_wp2_with (first
     |(go_at_call 294;refine cT.mono ?_;clear cT;rintro e w2 ⟨hF,hB⟩;obtain rfl:=hF))
    rw[HE.out];exact⟨rfl,HX.out.but.trans (But.of_below hB),rfl,_,HX.out.src.below hB⟩
   ·have HE:Hid (R=.error (8,(p:Int))):=by
     show _=_;have h2:(p:Int)=s.lim:=h1.2;have h3:p<s.bs.length:=h1.1;rw[←HR.out,qfg,List.getElem?_eq_getElem h3];simp only[];rw[if_pos h2]
    have cT:=qaP _ b {s with pos:=p} HX.out.src h1;clear HR h1
    go_wp2_with (first
     |(go_at_call 294;refine cT.mono ?_;rintro e w2 ⟨hF,hB⟩;obtain rfl:=hF))
    rw[HE.out];exact⟨rfl,HX.out.but.trans (But.of_below hB),rfl,_,HX.out.src.below hB⟩
   have hc1:s.bs[p]? = some c:=h1.1;have hc2:¬(p:Int)=s.lim:=h1.2;have HPL:Hid (p<s.bs.length):=h1.lt;have hr:=HR.out;rw[qfg,hc1] at hr;simp only[] at hr;rw[if_neg hc2] at hr;have cT:Calls prog 294 #[.pointer (some ⟨b,0,none⟩)] wr fun e W'=>e=.returned (.int .u8 c.toNat)∧qad W' b {s with pos:=p+1}∧But b wr W':=qau _ b {s with pos:=p} c HX.out.src h1;obtain⟨wf,HWF⟩:∃wf,Hid ((if qc1 (acc.drop wh) c=2 then acc.length+1 else wh)=wf):=⟨_,show _=_ from rfl⟩
   have cAdd:=fun V (hV:qnb W b (.func (.func f) #[] #[]) s (p+1) acc wh V)=>qp8 V (W.heap.size+1) (W.heap.size+2) acc wh c hV.gat hpe.out (HU.out V hV.but) (by omega) (by have:=ha.out;have:=hp.out;omega);rw[HWF.out] at cAdd;by_cases h0:qc1 (acc.drop wh) c=0
   ·rw[if_pos h0] at hr;subst hr;have hb0:(qc1 (acc.drop wh) c != 0)=false:=by rw[h0];rfl
    rw[hb0] at cAdd
    go_wp2_with (first
     |(go_at_call 294;refine cT.mono ?_;rintro e w2 ⟨rfl,hS,hB⟩;have HX2:=qaa (HX.out.take hbN hS hB))
     |(go_at_call 308;refine(cAdd _ HX2.out).mono ?_;rintro e w4 ⟨rfl,hK4,hG4⟩;have HX4:=qaa (HX2.out.keep HS0.out hK4 hG4);have kb:=qab HX4.out.box 0)
     |(go_at_call 295;refine(qat _ b {s with pos:=p+1} _ HX4.out.src).mono ?_;rintro e w7 ⟨hF,rfl⟩;obtain rfl:=hF))
    exact⟨rfl,HX4.out.but,by show qao _ _ _;unfold qao qeh;simp,_,HX4.out.src⟩
   rw[if_neg h0,HWF.out] at hr;have HN:=qaa hr;have hb0:(qc1 (acc.drop wh) c != 0)=true:=by simpa using h0
   rw[hb0] at cAdd;have HP2:=qaa (qja HX.out.gat.le hpe.out h0 HWF.out)
   go_wp2_with (first
    |(go_at_call 294;refine cT.mono ?_;rintro e w2 ⟨rfl,hS,hB⟩;have HX2:=qaa (HX.out.take hbN hS hB))
    |(go_at_call 308;refine(cAdd _ HX2.out).mono ?_;rintro e w4 ⟨rfl,hK4,hG4⟩;have HX4:=qaa (HX2.out.keep HS0.out hK4 hG4)))
   go_roundg g
   case measure=>omega
   case rel=>exact⟨k+1,p+1,acc++[c],wf,by go_num,by show _=_;have:=hg.out;omega,HPL,by show _≤_;rw[List.length_append];have:=ha.out;simp;omega,HP2,HX4,HN⟩
end
section
open Go.RowKit
def qb9 (rd:Nat→Except (Int×Int) (DataW Unit×Nat)):Nat→Nat→List (DataW Unit)→Except (Int×Int) (List (DataW Unit)×Nat)
 |0,p,acc=>.ok (acc,p)
 |k+1,p,acc=>match rd p with
  |.error e=>.error e
  |.ok (d,q)=>qb9 rd k q (acc++[d])
def qfr (hd:Nat→Nat×Nat×Nat)(bs:List UInt8)(lim:Int)(ks:List (List UInt8))(p:Nat):Except (Int×Int) (List UInt8×Nat) :=
 match bs[p]? with
 |none=>.error (9,p)
 |some c=>if (p:Int)=lim then .error (8,p) else if (hd c.toNat).1=8 then
   match qd9 bs lim (hd c.toNat).2.1 (p+1) (hd c.toNat).2.2 with
   |.error e=>.error e
   |.ok (x,q)=>match qfg bs lim x q [] 0 with
    |.error e=>.error e
    |.ok (l,r)=>if l∈ks then .error (12,(r:Int)-1) else .ok (l,r)
  else .error (9,p)
def qaI (kf:List (List UInt8)→Nat→Except (Int×Int) (List UInt8×Nat))(rd:Nat→Except (Int×Int) (DataW Unit×Nat)):Nat→Nat→List (List UInt8)→List (Lit×DataW Unit)→Except (Int×Int) (List (Lit×DataW Unit)×Nat)
 |0,p,_,acc=>.ok (acc,p)
 |k+1,p,ks,acc=>match kf ks p with
  |.error e=>.error e
  |.ok (l,q)=>match rd q with
   |.error e=>.error e
   |.ok (d,r)=>qaI kf rd k r (l::ks) (acc++[(.string l,d)])
def qjF (bs:List UInt8)(lim:Int)(li:Nat→Nat→Except (Int×Int) (List (DataW Unit)×Nat))(ma:Nat→Nat→Except (Int×Int) (List (Lit×DataW Unit)×Nat))(so w x q:Nat):Except (Int×Int) (DataW Unit×Nat) :=
 match so with
 |2=>.ok (.lit (.bool false),q)
 |3=>.ok (.lit (.bool true),q)
 |4=>match nbF 4 w x q with
  |.error e=>.error e
  |.ok z=>.ok (.lit (.int .i64 z),q)
 |5=>match nbF 5 w x q with
  |.error e=>.error e
  |.ok z=>.ok (.lit (.int .i64 z),q)
 |6=>match nbF 6 w x q with
  |.error e=>.error e
  |.ok z=>.ok (.lit (.int .i64 z),q)
 |7=>match qhb bs lim x q [] with
  |.error e=>.error e
  |.ok (l,r)=>.ok (.ptr (.lit (.string l)),r)
 |8=>match qfg bs lim x q [] 0 with
  |.error e=>.error e
  |.ok (l,r)=>.ok (.lit (.string l),r)
 |9=>match li x q with
  |.error e=>.error e
  |.ok (ds,r)=>.ok (.agg ds,r)
 |10=>match ma x q with
  |.error e=>.error e
  |.ok (es,r)=>.ok (.map es,r)
 |_=>.ok (.nil,q)
def thB (hd:Nat→Nat×Nat×Nat)(bs:List UInt8)(lim depth:Int):Nat→Nat→Nat→Except (Int×Int) (DataW Unit×Nat)
 |0,_,_=>.error (0,0)
 |g+1,wi,p=>match bs[p]? with
  |none=>.error (9,p)
  |some c=>if (p:Int)=lim then .error (8,p) else if (hd c.toNat).1=0 then .error (9,p) else
   if ((hd c.toNat).1=9∨(hd c.toNat).1=10)∧(wi:Int)=depth then .error (11,p) else
   match qd9 bs lim (hd c.toNat).2.1 (p+1) (hd c.toNat).2.2 with
   |.error e=>.error e
   |.ok (x,q)=>qjF bs lim (fun x q=>qb9 (thB hd bs lim depth g (wi+1)) x q []) (fun x q=>qaI (qfr hd bs lim) (thB hd bs lim depth g (wi+1)) x q [] []) (hd c.toNat).1 (hd c.toNat).2.1 x q
theorem qhJ {hd:Nat→Nat×Nat×Nat}{depth:Int}{g wi:Nat}{so w ar:Nat}(h1:bs[p]? = some c)(h2:¬(p:Int)=lim)(h3:hd c.toNat=(so,w,ar)):thB hd bs lim depth (g+1) wi p=(if so=0 then .error (9,(p:Int)) else if (so=9∨so=10)∧(wi:Int)=depth then .error (11,(p:Int)) else
   match qd9 bs lim w (p+1) ar with
   |.error e=>.error e
   |.ok (x,q)=>qjF bs lim (fun x q=>qb9 (thB hd bs lim depth g (wi+1)) x q []) (fun x q=>qaI (qfr hd bs lim) (thB hd bs lim depth g (wi+1)) x q [] []) so w x q):=by
 conv=>lhs;unfold thB
 rw[h1];simp only[];rw[if_neg h2,h3]
def qjI (k:Nat)(W:World)(b:Nat)(s:Src)(r:Except (Int×Int) (DataW Unit×Nat))(e:Ending)(W':World):Prop :=
 But b W W'∧match r with
 |.ok (d,p)=>(∃t y,e=.returned (.iface t y)∧qai k W' (fun j=>W.heap.size≤j∧j<W'.heap.size) (.iface t y) d)∧qad W' b {s with pos:=p}
 |.error (en,pl)=>qao en pl e∧∃p,qad W' b {s with pos:=p}
def qnF (k f b:Nat)(s:Src)(W0:World)(rd:Nat→Except (Int×Int) (DataW Unit×Nat)):Prop :=
 ∀(V:World) (p:Nat),qad V b {s with pos:=p}→But b W0 V→Calls prog 325 #[.agg #[.pointer (some ⟨b,0,none⟩),.func (.func f) #[] #[]]] V (qjI k V b {s with pos:=p} (rd p))
structure qoy (k:Nat)(W:World)(b:Nat)(fv:Value)(s:Src)(p:Nat)(v:Value)(ds:List (DataW Unit))(V:World):Prop where
 src:qad V b {s with pos:=p}
 but:But b W V
 box:V.heap[W.heap.size]? = some (.cells #[.pointer (some ⟨b,0,none⟩),fv] 201)
 own:∃xs,V.ownsRow (W.heap.size+1) 81 1 v ds.length xs∧∀(i:Nat) (x:Value) (d:DataW Unit),xs[i]? = some x→ds[i]? = some d→qai k V (fun j=>W.heap.size+1≤j∧j<V.heap.size∧some j≠v.ownBlock) x d
 size:W.heap.size+1≤V.heap.size
theorem qcM {W':World}{t:TypeId}(h:W.ownsRow base t size v n xs)(hB:But b W W')(hn:b<base):W'.ownsRow base t size v n xs:=by
 obtain⟨h1,h2⟩:=h;refine⟨h1,?_⟩;rcases h2 with h2|⟨g,cap,cur,e,hb,hg,h5⟩
 ·exact .inl h2
 exact .inr ⟨g,cap,cur,e,hb,(hB.block g (ltA hg) (by omega)).trans hg,h5⟩
theorem qoy.but' (h:qoy k W b fv s p v ds V)(hb:b<W.heap.size)(hs:qad V' b {s with pos:=q})(hB:But b V V'):qoy k W b fv s q v ds V':=by
 obtain⟨xs,h1,h2⟩:=h.own;refine⟨hs,h.but.trans hB,(hB.block _ (ltA h.box) (by omega)).trans h.box,⟨xs,qcM h1 hB (by omega),fun i x d hx hd => ?_⟩,Nat.le_trans h.size hB.size⟩;refine(h2 i x d hx hd).same (fun j hj=>⟨hj.1,Nat.lt_of_lt_of_le hj.2.1 hB.size,hj.2.2⟩) (fun j hj=>hB.block j hj.2.1 (by omega))
theorem qum (k:Nat)(fv:Value)(h:qad W b s):qoy k W b fv s s.pos (.slice none 0 0) [] (W.alloc (.cells #[.pointer (some ⟨b,0,none⟩),fv] 201)):=by
 have hB:Below W.heap.size W (W.alloc (.cells #[.pointer (some ⟨b,0,none⟩),fv] 201)):=bwA;exact⟨h.below hB,But.of_below hB,qac W _,⟨[],World.ownsRow_nil _ _ _ _,fun i x d hx=>by simp at hx⟩,by simp⟩
theorem qoy.push {w5:World}{v' x:Value}{d:DataW Unit}{V0:World}(h:qoy k W b fv s p v ds V)(h0:qad W b s)(ho:V.ownsRow (W.heap.size+1) 81 1 v ds.length xs)(hx:∀(i:Nat) (x:Value) (d:DataW Unit),xs[i]? = some x→ds[i]? = some d→qai k V (fun j=>W.heap.size+1≤j∧j<V.heap.size∧some j≠v.ownBlock) x d)(hd:qai k V (fun j=>V0.heap.size≤j∧j<V.heap.size) x d)(hv0:∀g,v.ownBlock=some g→g<V0.heap.size)(hW0:W.heap.size+1≤V0.heap.size)(ho':w5.ownsRow (W.heap.size+1) 81 1 v' (ds.length+1) (xs++[x]))(hg:(V.alloc (.cells #[x] 81)).grownBy w5 v.ownBlock)(hw:v'.ownBlock=v.ownBlock∨v'.ownBlock=some (V.alloc (.cells #[x] 81)).heap.size):qoy k W b fv s p v' (ds++[d]) w5:=by
 have hsz:=h.size;have hgs:V.heap.size+1≤w5.heap.size:=by have:=hg.size;simpa using this
 have key:∀g,v.ownBlock=some g→W.heap.size+1≤g:=fun g hg=>qbA ho hg;have hkeep:∀j,j<V.heap.size→some j≠v.ownBlock→w5.heap[j]? = V.heap[j]?:=fun j hj hn=>(hg.block j (by simp;omega) hn).trans (Below.heap_alloc _ _ _ hj);have hlow:∀j,j<W.heap.size+1→w5.heap[j]? = V.heap[j]?:=fun j hj=>hkeep j (by omega) (fun e=>by have:=key j e.symm;omega);refine⟨h0.same rfl rfl h.src (fun j hj=>hlow j (by omega)),⟨hg.os.trans h.but.os,hg.tape.trans h.but.tape,hg.output.trans h.but.output,by have:=h.but.size;omega,fun j hj hn=>(hlow j (by omega)).trans (h.but.block j hj hn)⟩,(hlow _ (by omega)).trans h.box,⟨xs++[x],by rw[List.length_append];exact ho',fun i y c hy hc => ?_⟩,by omega⟩;have hne:∀j,j<V.heap.size→some j≠v.ownBlock→some j≠v'.ownBlock:=fun j hj hn=>by
  rcases hw with hw|hw
  ·rw[hw];exact hn
  rw[hw];intro e;injection e with e;simp at e;omega
 have hxl:xs.length=ds.length:=by have:=ho.1;omega
 by_cases hi:i<ds.length
 ·rw[List.getElem?_append_left (by omega)] at hy hc;exact(hx i y c hy hc).same (fun j hj=>⟨hj.1,by have:=hj.2.1;omega,hne j hj.2.1 hj.2.2⟩) (fun j hj=>hkeep j hj.2.1 hj.2.2)
 have e:i=ds.length:=by
  have:=ltL hc;rw[List.length_append] at this;simp at this;omega
 subst e;rw[List.getElem?_append_right (by omega)] at hc;rw[List.getElem?_append_right (by omega),hxl] at hy;simp at hy hc;subst hy;subst hc;have hoff:∀j,V0.heap.size≤j→some j≠v.ownBlock:=fun j hj e=>by have:=hv0 j e.symm;omega
 exact hd.same (fun j hj=>⟨by omega,by omega,hne j hj.2 (hoff j hj.1)⟩) (fun j hj=>hkeep j hj.2 (hoff j hj.1))
theorem qhh {t:TypeId}(h:V.ownsRow base t size v n xs):∀g,v.ownBlock=some g→g<V.heap.size:=fun g hg=>by
 rcases h.2 with ⟨h0,_⟩|⟨g',cap,cur,rfl,hb',hh,_⟩
 ·subst h0;cases hg
 cases hg;exact ltA hh
theorem qoy.row (h:qoy k W b fv s p v ds V):qai (k+1) V (fun j=>W.heap.size≤j∧j<V.heap.size) (.iface 204 v) (.agg ds):=by
 obtain⟨xs,h1,h2⟩:=h.own;unfold qai;refine⟨v,xs,rfl,⟨h1.1,?_⟩,fun i x d hx hd=>(h2 i x d hx hd).same (fun j hj=>⟨by omega,hj.2.1⟩) (fun _ _=>rfl)⟩;rcases h1.2 with h3|⟨g,cap,cur,e,hb,hg,h5⟩
 ·exact .inl h3
 exact .inr ⟨g,cap,cur,e,⟨by omega,(ltA hg)⟩,hg,h5⟩
theorem Tryz.infoThing:(prog.info? 81).map (fun i=>(i.zero,i.size,i.bytes))=some (some .nilIface,1,16):=by kernel_rfl
theorem qjY (k:Nat)(W:World)(b:Nat)(s:Src)(f n:Nat)(rd:Nat→Except (Int×Int) (DataW Unit×Nat))(hn:n<18446744073709551616)(h:qad W b s)(hlen:s.bs.length≤200000000)(hrd:qnF k f b s W rd)(hgo:∀p d q,rd p=.ok (d,q)→p<q):Calls prog 330 #[.agg #[.pointer (some ⟨b,0,none⟩),.func (.func f) #[] #[]],.int .u64 n] W (qhz W b s (fun V v ds=>(∃a n c,v=.slice a n c)∧qai (k+1) V (fun j=>W.heap.size≤j∧j<V.heap.size) (.iface 204 v) (.agg ds)) (qb9 rd n s.pos [])):=by
 obtain⟨i0,hi,hz0,hz1,hz2⟩:=info_parts Tryz.infoThing;have HX0:Hid (qoy k W b (.func (.func f) #[] #[]) s s.pos (.slice none 0 0) [] (W.alloc (.cells #[.pointer (some ⟨b,0,none⟩),.func (.func f) #[] #[]] 201))):=qum _ _ h;have HS0:=qaa h;have HRD:=qaa hrd;have HGO:=qaa hgo;have hbN:=ltA h.row;have hle:=h.le;obtain⟨R,HR⟩:∃R,Hid (qb9 rd n s.pos []=R):=⟨_,show _=_ from rfl⟩
 rw[HR.out];clear h hrd hgo;go_enter func330,ntmps330;go_wp2;generalize W.alloc (.cells #[.pointer (some ⟨b,0,none⟩),.func (.func f) #[] #[]] 201)=W0 at *
 go_loopg [5,7] n (fun g y z wr=>∃(m p:Nat) (a:Option Addr) (l c:Nat) (ds:List (DataW Unit)),y=.slice a l c∧z=.int .u64 m∧Hid (m+g=n)∧Hid (p≤s.bs.length)∧Hid (ds.length≤p)∧Hid (qoy k W b (.func (.func f) #[] #[]) s p (.slice a l c) ds wr)∧Hid (qb9 rd g p ds=R))
 case atStart=>exact⟨0,s.pos,none,0,0,[],rfl,rfl,by show _=_;omega,hle,by show 0≤_;omega,HX0,HR⟩
 case round =>
  clear HX0 HR;obtain⟨m,p,a,l,c0,ds,rfl,rfl,hg,hp,ha,HX,HR⟩:=hrel;have kb:=qab HX.out.box 0;have kb1:=qab HX.out.box 1
  cases gk with
  |zero =>
   have hk:m=n:=by have:=hg.out;omega
   subst hk;have HE:Hid (R=.ok (ds,p)):=HR.out.symm;clear HR hg;go_wp2;go_ret;rw[HE.out];exact⟨HX.out.but,⟨_,rfl,⟨_,_,_,rfl⟩,HX.out.row⟩,HX.out.src⟩
  |succ g =>
   have hkn:m<n:=by have:=hg.out;omega
   have e1:decide ((m:Int)<(n:Int))=true:=by simp;omega
   have e2:decide (m<n)=true:=by simp;omega
   have cT:=HRD.out wr p HX.out.src HX.out.but;have hr:=HR.out;rw[qb9] at hr
   cases hq:rd p with
   |error er =>
    rw[hq] at hr cT;simp only[] at hr;obtain⟨en,pl⟩:=er;have HE:=qaa hr.symm;clear HR hr hq
    go_wp2_with (first
     |(go_at_call 325;refine cT.mono ?_;clear cT;rintro e w2 ⟨hB,hF⟩;obtain⟨hF,pz,hsz⟩:=(show qao en pl e∧∃p,qad w2 b {s with pos:=p} from hF);obtain rfl:=hF))
    rw[HE.out];exact⟨rfl,HX.out.but.trans hB,rfl,pz,hsz⟩
   |ok dq =>
    obtain⟨d,q⟩:=dq;rw[hq] at hr cT;simp only[] at hr;have hpq:=HGO.out p d q hq;have HN:=qaa hr;have hal:ds.length≤200000000:=by have:=ha.out;have:=hp.out;omega
    have HDL:Hid (ds.length+1≤q):=by show _≤_;have:=ha.out;omega
    have HVW:=qaa HX.out.size;have HOL:Hid (∀g,(Value.slice a l c0).ownBlock=some g→g<wr.heap.size):=by obtain⟨xs,h1,_⟩:=HX.out.own;exact qhh h1
    go_wp2_with (first
     |(go_at_call 325;refine cT.mono ?_;rintro e w2 ⟨hB,hF⟩;obtain⟨⟨t,y,rfl,hd⟩,hS⟩:=(show(∃t y,e=.returned (.iface t y)∧qai k w2 (fun j=>wr.heap.size≤j∧j<w2.heap.size) (.iface t y) d)∧qad w2 b {s with pos:=q} from hF);have HX2:=qaa (HX.out.but' hbN hS hB);have HD:=qaa hd;have HQ:Hid (q≤s.bs.length):=hS.le;obtain⟨xs,hown,hxs⟩:=HX2.out.own;have HO:=qaa hown;have HXS:=qaa hxs;have HBS:=qaa HX2.out.size)
     |(at_builtin;refine qaX _ rfl _ _ 204 rfl (W.heap.size+1) 81 i0 .nilIface 1 16 underlying204 hi hz0 hz1 hz2 rfl (by decide) _ _ _ rfl (HO.out.alloc _) ⟨w2.heap.size,0,none⟩ 1 1 [.iface t y] rfl rfl (qag _ _ _) (fun u hu=>by simp at hu;subst hu;rfl) (by decide) (by unfold maxLen;omega) (by omega) (by simp;have:=HBS.out;omega) ?_;intro v' w5 hown' hgrow5 hw5;have HX5:=qaa (HX2.out.push HS0.out HO.out HXS.out HD.out HOL.out HVW.out hown' hgrow5 hw5);obtain⟨g5,cap5,rfl⟩:=ownsRow_succ hown'))
    go_roundg g
    case measure=>omega
    case rel=>exact⟨m+1,q,_,_,_,ds++[d],rfl,by go_num,by show _=_;have:=hg.out;omega,HQ,by show _≤_;rw[List.length_append];exact HDL.out,HX5,HN⟩
theorem qso {P:Program}{c:Code}(T:Nat→World→Prop)(act:Nat→Act)(hr:(∀x V,T x V→Q .normal (act x) V)→c.wp P Q a w)(ht:∀x V,T x V→Q .normal (act x) V):c.wp P Q a w:=hr ht
theorem qm2 (W:World)(b k:Nat)(s:Src)(u:FrameMode)(h:qad W b s)(hk:s.within=k+1)(hw:s.within≤1000000):CallsD prog 317 #[.pointer (some ⟨b,0,none⟩)] u W fun e u' W'=>u'=u∧(e=.returned (.tuple #[])∧qad W' b {s with within:=k}∧But b W W'):=by
 have k4:W.cell? ⟨b,4,none⟩=some (.int .i64 ((k:Int)+1)):=by
  have:=qab h.row 4;rw[this];show some (Value.int .i64 (s.within:Int))=_;rw[hk];rfl
 have f4:=frozen_of_row W b 4 _ _ h.row;have HN:Hid (qad (W.setCell ⟨b,4,none⟩ (.int .i64 k)) b {s with within:=k}∧But b W (W.setCell ⟨b,4,none⟩ (.int .i64 k))):=qe2 k 0 h;have hk2:k≤1000000:=by omega
 refine callsD_of_wp (R:=fun e W'=>e=.returned (.tuple #[])∧qad W' b {s with within:=k}∧But b W W') func317 rfl ?_;simp only[ntmps317,List.size_toArray,List.length_cons,List.length_nil,Nat.reduceAdd,Nat.reduceSub,Array.replicate_succ,Array.replicate_zero,List.push_toArray,List.append_toArray,List.nil_append,List.cons_append];go_wp2;go_end0;exact⟨rfl,HN.out.1,HN.out.2⟩
theorem qd8 (W:World)(b:Nat)(s:Src)(f:Nat)(en:Int)(h:qad W b s)(cT:∀V,qad V b s→Calls prog 294 #[.pointer (some ⟨b,0,none⟩)] V fun e W'=>qao en s.pos e∧Below V.heap.size V W'):Calls prog 325 #[.agg #[.pointer (some ⟨b,0,none⟩),.func (.func f) #[] #[]]] W fun e W'=>But b W W'∧qao en s.pos e∧∃p,qad W' b {s with pos:=p}:=by
 have HH:=qaa h;have hB1:Below W.heap.size W (W.alloc (.cells #[.pointer (some ⟨b,0,none⟩),.func (.func f) #[] #[]] 201)).drew:=(bwA).drew;have HB1:=qaa hB1;have HX1:Hid ((W.alloc (.cells #[.pointer (some ⟨b,0,none⟩),.func (.func f) #[] #[]] 201)).drew.heap[W.heap.size]? = some (.cells #[.pointer (some ⟨b,0,none⟩),.func (.func f) #[] #[]] 201)):=qac W _
 go_enter_defers func325,ntmps325
 go_wp2_with fail
 refine wp_region_held (S:=fun V=>V.heap[W.heap.size]? = some (.cells #[.pointer (some ⟨b,0,none⟩),.func (.func f) #[] #[]] 201)) (by kernel_rfl) ?_;have hS:=HX1.out;refine wpAnyH_take (i:=0) (v:=.pointer (some ⟨W.heap.size,1,none⟩)) rfl (by kernel_rfl) (by kernel_rfl) (by kernel_rfl) (fun c a w h=>qbt results325 5 (by decide) _ c a w h) (.inl ⟨rfl,fun V hV=>rfl⟩) hS ?_;refine wpAnyH_take (i:=1) (v:=.func (.func f) #[] #[]) rfl (by kernel_rfl) (by kernel_rfl) (by kernel_rfl) (fun c a w h=>qbt results325 6 (by decide) _ c a w h) (.inl ⟨rfl,fun V hV => ?y1⟩) hS ?_
 case y1=>(have h2:=qab hV 1;go_simp)
 refine wpAnyH_take (i:=2) (v:=.pointer (some ⟨W.heap.size,0,none⟩)) rfl (by kernel_rfl) (by kernel_rfl) (by kernel_rfl) (fun c a w h=>qbt results325 7 (by decide) _ c a w h) (.inl ⟨rfl,fun V hV=>rfl⟩) hS ?_;refine wpAnyH_take (i:=3) (v:=.pointer (some ⟨b,0,none⟩)) rfl (by kernel_rfl) (by kernel_rfl) (by kernel_rfl) (fun c a w h=>qbt results325 8 (by decide) _ c a w h) (.inl ⟨rfl,fun V hV => ?y3⟩) hS ?_
 case y3=>(have h2:=qab hV 0;go_simp)
 refine qsx 4 6 rfl rfl (by kernel_rfl) (fun K hK => ?_) (fun K hK => ?_)
 ·go_simp;refine(cT _ (HH.out.below HB1.out)).mono ?_;rintro e w2 ⟨hF,hB2⟩;obtain rfl:=hF;exact⟨(But.of_below HB1.out).trans (But.of_below hB2),rfl,_,(HH.out.below HB1.out).below hB2⟩
 go_simp;have hX3:((W.alloc (.cells #[.pointer (some ⟨b,0,none⟩),.func (.func f) #[] #[]] 201)).drew.alloc (.cells #[.int .i64 0,.int .i64 0,.int .u64 0] 273)).heap[W.heap.size]? = _:=(Below.heap_alloc _ _ _ (ltA hS)).trans hS;have hBa:Below W.heap.size W ((W.alloc (.cells #[.pointer (some ⟨b,0,none⟩),.func (.func f) #[] #[]] 201)).drew.alloc (.cells #[.int .i64 0,.int .i64 0,.int .u64 0] 273)):=HB1.out.alloc HB1.out.size _;refine hK.out _ _ hX3 (fun _ => ?_);refine rdH 4 rfl (by kernel_rfl) (fun K hK => ?_);go_simp;refine(cT _ (HH.out.below hBa)).mono ?_;rintro e w2 ⟨hF,hB2⟩;obtain rfl:=hF;exact⟨(But.of_below hBa).trans (But.of_below hB2),rfl,_,(HH.out.below hBa).below hB2⟩
end
end Go.Proofs.YtllcbnfmihfaaaaGreatDoor
