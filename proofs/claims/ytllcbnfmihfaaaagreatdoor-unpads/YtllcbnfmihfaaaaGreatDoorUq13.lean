import Derived.Laws.IdiomStrings
import Derived.Test.YtllcbnfmihfaaaaGreatDoorUq12
import Derived.Test.YtllcbnfmihfaaaaGreatDoorUq10
import Derived.Test.YtllcbnfmihfaaaaGreatDoorUq05
set_option maxRecDepth 100000
set_option maxHeartbeats 8000000
namespace Go.Proofs.YtllcbnfmihfaaaaGreatDoor
open Go.Proofs.Tryz
section
open Go.RowKit Go.Lib
theorem qkK {l:List UInt8}{c:UInt8}(hp:qjw l=true)(h:qbb l c=1):qjw (l++[c])=true:=by
 match l,hp with
 |[],_ =>
  unfold qbb at h
  simp only[] at h
  split at h
  ·cases h
  ·split at h
   ·cases h
   ·exact decide_eq_true (by omega)
 |[b0],hp =>
  have hs:=of_decide_eq_true hp
  unfold qbb at h
  simp only[] at h
  split at h
  ·cases h
  ·split at h
   ·cases h
   ·exact decide_eq_true (by omega)
 |[b0,b1],hp =>
  have hs:=of_decide_eq_true hp
  have hb:=qfI (b:=b0) (by omega)
  unfold qbb at h
  simp only[] at h
  split at h
  ·cases h
  ·split at h
   ·cases h
   ·exact decide_eq_true (by omega)
 |[b0,b1,b2],hp =>
  unfold qbb at h
  simp only[] at h
  split at h
  ·cases h
  ·cases h
def qbu (bs:List UInt8)(lim:Int):Nat→Nat→List UInt8→Nat→Except (Int×Int) (List UInt8×Nat)
 |0,p,_,_=>.error (9,p)
 |g+1,p,acc,wh=>match bs[p]? with
  |none=>.error (9,p)
  |some c=>if (p:Int)=lim then .error (8,p) else
   if c.toNat=34∧wh=acc.length then .ok (acc,p+1) else
   if c.toNat=92∧wh=acc.length then (match qh3 bs lim (p+1) with
    |.error e=>.error e
    |.ok (r,q)=>qbu bs lim g q (acc++qaF r) (acc++qaF r).length) else
   if c.toNat<32 then .error (9,p) else if qbb (acc.drop wh) c=0 then .error (9,p) else
   qbu bs lim g (p+1) (acc++[c]) (if qbb (acc.drop wh) c=2 then acc.length+1 else wh)
theorem qj2 {bs:List UInt8}{lim:Int}{p:Nat}{r:Int}{q:Nat}(h:qdr bs lim p=.ok (r,q)):(0≤r∧r≤1114111)∧p+4≤q:=by
 unfold qdr at h
 split at h
 ·cases h
 ·next x q1 hx =>
  obtain⟨hx1,hx2⟩:=qfA hx
  split at h
  ·cases h
  ·split at h
   ·next hhi =>
    have hh:=of_decide_eq_true (show decide (55296≤x∧x≤56319)=true from hhi)
    split at h
    ·cases h
    ·next q2 hr =>
     split at h
     ·cases h
     ·next y q3 hy =>
      obtain⟨hy1,hy2⟩:=qfA hy
      split at h
      ·next hlo =>
       have hl:=of_decide_eq_true (show decide (56320≤y∧y≤57343)=true from hlo)
       cases h
       have:q1≤q2:=by
        unfold qaw at hr
        split at hr
        ·cases hr
        ·split at hr
         ·cases hr
         ·split at hr
          ·unfold qaw at hr
           split at hr
           ·cases hr
           ·split at hr
            ·cases hr
            ·split at hr
             ·unfold qaw at hr
              cases hr
              omega
             ·cases hr
          ·cases hr
       omega
      ·cases h
   ·cases h
    simp at hx1
    omega
theorem qgB {bs:List UInt8}{lim:Int}{p:Nat}{r:Int}{q:Nat}(h:qh3 bs lim p=.ok (r,q)):(0≤r∧r≤1114111)∧p+1≤q:=by
 unfold qh3 at h
 split at h
 ·cases h
 ·split at h
  ·cases h
  ·repeat' split at h
   all_goals first
    |(cases h;omega)
    |(have:=qj2 h;omega)
    |cases h
theorem qc5 {acc:List UInt8}{wh wf:Nat}{c:UInt8}(hle:wh≤acc.length)(hp:qjw (acc.drop wh)=true)(h0:¬qbb (acc.drop wh) c=0)(hwf:(if qbb (acc.drop wh) c=2 then acc.length+1 else wh)=wf):qjw ((acc++[c]).drop wf)=true:=by
 by_cases h2:qbb (acc.drop wh) c=2
 ·rw[if_pos h2] at hwf
  subst hwf
  rw[List.drop_eq_nil_of_le (by simp)]
  rfl
 ·rw[if_neg h2] at hwf
  subst hwf
  rw[List.drop_append_of_le_length hle]
  refine qkK hp ?_
  have hk:qbb (acc.drop wh) c=0∨qbb (acc.drop wh) c=1∨qbb (acc.drop wh) c=2:=by
   unfold qbb
   repeat' split
   all_goals simp
  omega
theorem qey {Q:Exit→Act→World→Prop}{a:Act}{w:World}(h:Q .ret a w):Exit.noGoto Q .ret a w:=h
structure qcq (W:World)(b:Nat)(s:Src)(p:Nat)(acc:List UInt8)(wh:Nat)(V:World):Prop where
 src:qad V b {s with pos:=p}
 but:But b W V
 box:V.heap[W.heap.size]? = some (.cells #[.pointer (some ⟨b,0,none⟩)] 198)
 gat:qbU V (W.heap.size+1) (W.heap.size+2) acc wh
theorem qcq.take {W V V':World}{b:Nat}{s:Src}{p q:Nat}{acc:List UInt8}{wh:Nat}(h:qcq W b s p acc wh V)(hb:b<W.heap.size)(hs:qad V' b {s with pos:=q})(hB:But b V V'):qcq W b s q acc wh V' :=
 ⟨hs,h.but.trans hB,(hB.block _ (ltA h.box) (by omega)).trans h.box,h.gat.but hB (by omega) (by omega)⟩
theorem qcq.below {W V V':World}{b:Nat}{s:Src}{p:Nat}{acc:List UInt8}{wh:Nat}(h:qcq W b s p acc wh V)(hB:Below V.heap.size V V'):qcq W b s p acc wh V' :=
 ⟨h.src.below hB,h.but.trans (But.of_below hB),(hB.block _ (ltA h.box)).trans h.box,h.gat.below hB⟩
theorem qcq.keep {W V V':World}{b:Nat}{s:Src}{p:Nat}{acc acc':List UInt8}{wh wh':Nat}(h:qcq W b s p acc wh V)(h0:qad W b s)(hK:qcl (W.heap.size+1) (W.heap.size+2) V V')(hg:qbU V' (W.heap.size+1) (W.heap.size+2) acc' wh'):qcq W b s p acc' wh' V' :=
 ⟨h0.same rfl rfl h.src (fun k hk=>hK.block k (by omega) (by omega)),⟨hK.os.trans h.but.os,hK.tape.trans h.but.tape,hK.output.trans h.but.output,Nat.le_trans h.but.size hK.size,fun k hk hn=>(hK.block k (by omega) (by omega)).trans (h.but.block k hk hn)⟩,(hK.block _ (by omega) (by omega)).trans h.box,hg⟩
theorem ql0:∀w:World,(convert 28 9 (.slice none 0 0)).run prog w=.ok (.string ⟨#[]⟩) w:=fun w=>by kernel_rfl
theorem qf9 {W:World}{base:Nat}{v:Value}{bs:List UInt8}(h:Own W base v bs):(convert 28 9 v).run prog W=.ok (.string ⟨bs.toArray⟩) W:=by
 have h':=h
 obtain⟨⟨h1,h2⟩,h3,h4⟩:=h
 rcases h2 with ⟨rfl,h0⟩|⟨g,cap,cur,rfl,h5⟩
 ·have:bs=[]:=List.eq_nil_of_length_eq_zero h0
  subst this
  exact ql0 W
 ·refine run_convert_bytes_back W 28 9 5 ⟨g,0,none⟩ cap bs underlying28 underlying5 underlying9 ?_
  intro j hj
  have e:(⟨g,0,none⟩:Addr).add j=⟨g,j,none⟩:=by by_cases h:j=0<;>simp[Addr.add,h]
  rw[e]
  exact(qc7 h').2 j hj
theorem qne {W:World}{b:Nat}{s:Src}(h:qad W b s):qcq W b s s.pos [] 0 ((W.alloc (.cells #[.pointer (some ⟨b,0,none⟩)] 198)).alloc (.cells #[.slice none 0 0,.int .i64 0] 409)):=by
 have hB:Below W.heap.size W ((W.alloc (.cells #[.pointer (some ⟨b,0,none⟩)] 198)).alloc (.cells #[.slice none 0 0,.int .i64 0] 409)):=(bwA).alloc (by simp) _
 have hg:=qab (W.alloc (.cells #[.pointer (some ⟨b,0,none⟩)] 198)) (.cells #[.slice none 0 0,.int .i64 0] 409)
 rw[World.size_alloc] at hg
 refine⟨h.below hB,But.of_below hB,?_,⟨⟨_,hg,?_⟩,by omega,Nat.le_refl _⟩⟩
 ·have h0:=qab W (.cells #[.pointer (some ⟨b,0,none⟩)] 198)
  exact(Below.heap_alloc _ _ _ (by simp)).trans h0
 ·refine⟨World.ownsRow_nil _ _ _ _,?_,none,0,0,rfl⟩
  simp
theorem qdK (W:World)(b:Nat)(s:Src)(h:qad W b s)(ht:U8 W)(h7:7<b)(hlen:s.bs.length≤200000000):Calls prog 299 #[.agg #[.pointer (some ⟨b,0,none⟩)]] W (qbv W b s (fun l:List UInt8=>.string ⟨l.toArray⟩) (qbu s.bs s.lim (s.bs.length+1-s.pos) s.pos [] 0)):=by
 have HX0:Hid (qcq W b s s.pos [] 0 ((W.alloc (.cells #[.pointer (some ⟨b,0,none⟩)] 198)).alloc (.cells #[.slice none 0 0,.int .i64 0] 409))):=qne h
 have HS0:Hid (qad W b s):=h
 have HT:Hid (U8 W):=ht
 have hbN:b<W.heap.size:=ltA h.row
 have hle:=h.le
 obtain⟨R,HR⟩:∃R,Hid (qbu s.bs s.lim (s.bs.length+1-s.pos) s.pos [] 0=R):=⟨_,show _=_ from rfl⟩
 rw[HR.out]
 clear h ht
 go_enter func299,ntmps299
 go_wp2
 go_step3
 go_wp2
 go_step3
 go_wp2
 generalize (W.alloc (.cells #[.pointer (some ⟨b,0,none⟩)] 198)).alloc (.cells #[.slice none 0 0,.int .i64 0] 409)=W0 at *
 go_loopg [4,8] (s.bs.length+1-s.pos) (fun g _ _ wr=>∃(p:Nat) (acc:List UInt8) (wh:Nat),Hid (s.bs.length+1≤p+g)∧Hid (p≤s.bs.length)∧Hid (acc.length≤4*p)∧Hid (qjw (acc.drop wh)=true)∧Hid (qcq W b s p acc wh wr)∧Hid (qbu s.bs s.lim g p acc wh=R))
 case atStart=>exact⟨s.pos,[],0,by show _≤_;omega,hle,by show 0≤_;omega,rfl,HX0,HR⟩
 case round =>
  clear HX0 HR
  obtain⟨p,acc,wh,hg,hp,ha,hpe,HX,HR⟩:=hrel
  obtain⟨g,rfl⟩:∃g,gk=g+1:=⟨gk-1,by have:=hg.out;have:=hp.out;omega⟩
  have kb:=qaa HX.out.box 0
  have HU:Hid (∀V,But b W V→U8 V):=by
   show ∀V,_
   intro V hV
   have hc:∀(q off:Nat) (v:Value),q≤7→W.cell? ⟨q,off,none⟩=some v→V.cell? ⟨q,off,none⟩=some v:=fun q off v hq hv=>(World.cell?_of_block (w:=W) (hV.block q (by omega) (by omega))).trans hv
   exact⟨fun c hc'=>hc _ _ _ (by decide) (HT.out.1 c hc'),fun i hi=>⟨hc _ _ _ (by decide) (HT.out.2 i hi).1,hc _ _ _ (by decide) (HT.out.2 i hi).2⟩⟩
  rcases qaO HX.out.src with h1|h1|⟨c,h1⟩
  ·have HE:Hid (R=.error (9,(p:Int))):=by
    show _=_
    rw[←HR.out,qbu,List.getElem?_eq_none (by have:p=s.bs.length:=h1;omega)]
   have cT:=qbe _ b {s with pos:=p} HX.out.src h1
   clear HR h1
   go_wp2_with (first
    |(go_at_call 294;refine cT.mono ?_;clear cT;rintro e w2 ⟨hF,hB⟩;obtain rfl:=hF))
   rw[HE.out]
   exact⟨rfl,HX.out.but.trans (But.of_below hB),rfl⟩
  ·have HE:Hid (R=.error (8,(p:Int))):=by
    show _=_
    have h2:(p:Int)=s.lim:=h1.2
    have h3:p<s.bs.length:=h1.1
    rw[←HR.out,qbu,List.getElem?_eq_getElem h3]
    simp only[]
    rw[if_pos h2]
   have cT:=qaN _ b {s with pos:=p} HX.out.src h1
   clear HR h1
   go_wp2_with (first
    |(go_at_call 294;refine cT.mono ?_;clear cT;rintro e w2 ⟨hF,hB⟩;obtain rfl:=hF))
   rw[HE.out]
   exact⟨rfl,HX.out.but.trans (But.of_below hB),rfl⟩
  ·have hc1:s.bs[p]? = some c:=h1.1
   have hc2:¬(p:Int)=s.lim:=h1.2
   have HPL:Hid (p<s.bs.length):=h1.lt
   have hr:=HR.out
   rw[qbu,hc1] at hr
   simp only[] at hr
   rw[if_neg hc2] at hr
   have cT:Calls prog 294 #[.pointer (some ⟨b,0,none⟩)] wr fun e W'=>e=.returned (.int .u8 c.toNat)∧qad W' b {s with pos:=p+1}∧But b wr W':=qax _ b {s with pos:=p} c HX.out.src h1
   clear h1 hc1 hc2 HR
   have cW:=fun V (hV:qcq W b s (p+1) acc wh V)=>qef V (W.heap.size+1) (W.heap.size+2) acc wh hV.gat
   by_cases hw:wh=acc.length
   ·rw[decide_eq_true hw] at cW
    by_cases g34:c.toNat=34
    ·rw[if_pos ⟨g34,hw⟩] at hr
     subst hr
     have f34:((c.toNat:Int)==34)=true:=by simp;omega
     clear g34
     go_wp2_with (first
      |(go_at_call 294;refine cT.mono ?_;clear cT kb;rintro e w2 ⟨rfl,hS,hB⟩;have HX2:=qac (HX.out.take hbN hS hB);clear HX hS hB)
      |(go_at_call 305;refine(cW _ HX2.out).mono ?_;clear cW;rintro e w3 ⟨rfl,hB⟩;have HX3:Hid (qcq W b s (p+1) acc wh w3):=HX2.out.below hB;clear HX2 hB;obtain⟨v3,r3,o3⟩:=HX3.out.gat.row;obtain⟨_,_,a3,n3,c3,rfl⟩:=(show Own w3 _ _ _ from o3);have hcv:=qf9 o3;have k3:=qaa r3 0))
     refine qey ?_
     go_ret
     exact⟨HX3.out.but,rfl,HX3.out.src⟩
    ·rw[if_neg (fun hh=>g34 hh.1)] at hr
     have f34:=nec (c:=c) 34 (by omega)
     by_cases g92:c.toNat=92
     ·rw[if_pos ⟨g92,hw⟩] at hr
      have f92:((c.toNat:Int)==92)=true:=by simp;omega
      have cE:=fun V (hV:qcq W b s (p+1) acc wh V)=>qeH V b {s with pos:=p+1} hV.src
      clear g34 g92
      rcases he:qh3 s.bs s.lim (p+1) with ⟨en,pl⟩|⟨r,q⟩
      ·rw[he] at hr
       have cE2:∀V,qcq W b s (p+1) acc wh V→Calls prog 307 #[.agg #[.pointer (some ⟨b,0,none⟩)]] V (qbv V b {s with pos:=p+1} (fun x:Int=>.int .i32 x) (.error (en,pl))):=by rw[←he];exact cE
       subst hr
       clear cE he
       go_wp2_with (first
        |(go_at_call 294;refine cT.mono ?_;clear cT kb;rintro e w2 ⟨rfl,hS,hB⟩;have HX2:=qac (HX.out.take hbN hS hB);clear HX hS hB;have kb:=qaa HX2.out.box 0)
        |(go_at_call 305;refine(cW _ HX2.out).mono ?_;clear cW kb;rintro e w3 ⟨rfl,hB⟩;have HX3:Hid (qcq W b s (p+1) acc wh w3):=HX2.out.below hB;clear HX2 hB;have HX2:=HX3;clear HX3;have kb:=qaa HX2.out.box 0)
        |(go_at_call 307;refine(cE2 _ HX2.out).mono ?_;clear cE2 kb;rintro e w5 ⟨hB,hF⟩;obtain rfl:=hF))
       exact⟨rfl,HX2.out.but.trans hB,rfl⟩
      ·rw[he] at hr
       simp only[] at hr
       have cE2:∀V,qcq W b s (p+1) acc wh V→Calls prog 307 #[.agg #[.pointer (some ⟨b,0,none⟩)]] V (qbv V b {s with pos:=p+1} (fun x:Int=>.int .i32 x) (.ok (r,q))):=by rw[←he];exact cE
       have hfit:=qgB he
       have hf1:=hfit.1.1
       have hf2:=hfit.1.2
       have HF3:Hid (p+1+1≤q):=hfit.2
       have HN:Hid (qbu s.bs s.lim g q (acc++qaF r) (acc++qaF r).length=R):=hr
       have cC:=fun V (hV:qcq W b s q acc wh V)=>qdN V (W.heap.size+1) (W.heap.size+2) acc wh r (by omega) (by omega) hV.gat (by have:=ha.out;have:=hp.out;omega)
       have HRB:Hid ((qaF r).length≤4):=(qdx r).2
       clear cE he hr hfit
       go_wp2_with (first
        |(go_at_call 294;refine cT.mono ?_;clear cT kb;rintro e w2 ⟨rfl,hS,hB⟩;have HX2:=qac (HX.out.take hbN hS hB);clear HX hS hB;have kb:=qaa HX2.out.box 0)
        |(go_at_call 305;refine(cW _ HX2.out).mono ?_;clear cW kb;rintro e w3 ⟨rfl,hB⟩;have HX3:Hid (qcq W b s (p+1) acc wh w3):=HX2.out.below hB;clear HX2 hB;have HX2:=HX3;clear HX3;have kb:=qaa HX2.out.box 0)
        |(go_at_call 307;refine(cE2 _ HX2.out).mono ?_;clear cE2 kb;rintro e w5 ⟨hB,rfl,hS⟩;have HX5:=qac (HX2.out.take hbN hS hB);clear HX2 hS hB)
        |(go_at_call 306;refine(cC _ HX5.out).mono ?_;clear cC;rintro e w6 ⟨rfl,hK6,hG6⟩;have HX6:Hid (qcq W b s q (acc++qaF r) (acc++qaF r).length w6):=HX5.out.keep HS0.out hK6 hG6;clear HX5 hK6 hG6))
       go_roundg g
       case measure=>omega
       case rel=>exact⟨q,acc++qaF r,(acc++qaF r).length,by show _≤_;have:=hg.out;have:=HF3.out;omega,HX6.out.src.le,by show _≤_;rw[List.length_append];have:=ha.out;have:=HF3.out;have:=HRB.out;omega,by show _=_;rw[List.drop_length];rfl,HX6,HN⟩
     ·rw[if_neg (fun hh=>g92 hh.1)] at hr
      have f92:=nec (c:=c) 92 (by omega)
      clear g34 g92
      by_cases h32:c.toNat<32
      ·rw[if_pos h32] at hr
       subst hr
       have f32:decide ((c.toNat:Int)<32)=true:=by simp;omega
       clear h32 cW
       go_wp2_with (first
        |(go_at_call 294;refine cT.mono ?_;clear cT kb;rintro e w2 ⟨rfl,hS,hB⟩;have HX2:=qac (HX.out.take hbN hS hB);clear HX hS hB;have kb:=qaa HX2.out.box 0)
        |(go_at_call 295;refine(qam _ b {s with pos:=p+1} _ HX2.out.src).mono ?_;rintro e w7 ⟨hF,rfl⟩;obtain rfl:=hF))
       exact⟨rfl,HX2.out.but,by show qaj _ _ _;unfold qaj qco;simp⟩
      rw[if_neg h32] at hr
      have f32:decide ((c.toNat:Int)<32)=false:=by simp;omega
      obtain⟨wf,HWF⟩:∃wf,Hid ((if qbb (acc.drop wh) c=2 then acc.length+1 else wh)=wf):=⟨_,show _=_ from rfl⟩
      have cAdd:=fun V (hV:qcq W b s (p+1) acc wh V)=>qdZ V (W.heap.size+1) (W.heap.size+2) acc wh c hV.gat hpe.out (HU.out V hV.but) (by omega) (by have:=ha.out;have:=hp.out;omega)
      rw[HWF.out] at cAdd
      by_cases h0:qbb (acc.drop wh) c=0
      ·rw[if_pos h0] at hr
       subst hr
       have hb0:(qbb (acc.drop wh) c != 0)=false:=by rw[h0];rfl
       rw[hb0] at cAdd
       clear h0 h32 hb0 cW
       go_wp2_with (first
        |(go_at_call 294;refine cT.mono ?_;clear cT kb;rintro e w2 ⟨rfl,hS,hB⟩;have HX2:=qac (HX.out.take hbN hS hB);clear HX hS hB;have kb:=qaa HX2.out.box 0)
        |(go_at_call 308;refine(cAdd _ HX2.out).mono ?_;clear cAdd kb;rintro e w4 ⟨rfl,hK4,hG4⟩;have HX4:Hid (qcq W b s (p+1) (acc++[c]) wf w4):=HX2.out.keep HS0.out hK4 hG4;clear HX2 hK4 hG4;have kb:=qaa HX4.out.box 0)
        |(go_at_call 295;refine(qam _ b {s with pos:=p+1} _ HX4.out.src).mono ?_;rintro e w7 ⟨hF,rfl⟩;obtain rfl:=hF))
       exact⟨rfl,HX4.out.but,by show qaj _ _ _;unfold qaj qco;simp⟩
      ·rw[if_neg h0,HWF.out] at hr
       have HN:Hid (qbu s.bs s.lim g (p+1) (acc++[c]) wf=R):=hr
       have hb0:(qbb (acc.drop wh) c != 0)=true:=by simpa using h0
       rw[hb0] at cAdd
       have HP2:Hid (qjw ((acc++[c]).drop wf)=true):=qc5 HX.out.gat.le hpe.out h0 HWF.out
       clear h0 h32 hb0 hr cW
       go_wp2_with (first
        |(go_at_call 294;refine cT.mono ?_;clear cT kb;rintro e w2 ⟨rfl,hS,hB⟩;have HX2:=qac (HX.out.take hbN hS hB);clear HX hS hB;have kb:=qaa HX2.out.box 0)
        |(go_at_call 308;refine(cAdd _ HX2.out).mono ?_;clear cAdd kb;rintro e w4 ⟨rfl,hK4,hG4⟩;have HX4:Hid (qcq W b s (p+1) (acc++[c]) wf w4):=HX2.out.keep HS0.out hK4 hG4;clear HX2 hK4 hG4;have kb:=qaa HX4.out.box 0))
       go_roundg g
       case measure=>omega
       case rel=>exact⟨p+1,acc++[c],wf,by show _≤_;have:=hg.out;omega,HPL,by show _≤_;rw[List.length_append];have:=ha.out;simp;omega,HP2,HX4,HN⟩
   ·rw[decide_eq_false hw] at cW
    rw[if_neg (fun hh=>hw hh.2),if_neg (fun hh=>hw hh.2)] at hr
    by_cases g34:c.toNat=34
    ·have f34:((c.toNat:Int)==34)=true:=by simp;omega
     have f92:=nec (c:=c) 92 (by omega)
     have h32:¬c.toNat<32:=by omega
     rw[if_neg h32] at hr
     have f32:decide ((c.toNat:Int)<32)=false:=by simp;omega
     clear g34
     obtain⟨wf,HWF⟩:∃wf,Hid ((if qbb (acc.drop wh) c=2 then acc.length+1 else wh)=wf):=⟨_,show _=_ from rfl⟩
     have cAdd:=fun V (hV:qcq W b s (p+1) acc wh V)=>qdZ V (W.heap.size+1) (W.heap.size+2) acc wh c hV.gat hpe.out (HU.out V hV.but) (by omega) (by have:=ha.out;have:=hp.out;omega)
     rw[HWF.out] at cAdd
     by_cases h0:qbb (acc.drop wh) c=0
     ·rw[if_pos h0] at hr
      subst hr
      have hb0:(qbb (acc.drop wh) c != 0)=false:=by rw[h0];rfl
      rw[hb0] at cAdd
      clear h0 h32 hb0
      go_wp2_with (first
       |(go_at_call 294;refine cT.mono ?_;clear cT kb;rintro e w2 ⟨rfl,hS,hB⟩;have HX2:=qac (HX.out.take hbN hS hB);clear HX hS hB;have kb:=qaa HX2.out.box 0)
       |(go_at_call 305;refine(cW _ HX2.out).mono ?_;clear cW kb;rintro e w3 ⟨rfl,hB⟩;have HX3:Hid (qcq W b s (p+1) acc wh w3):=HX2.out.below hB;clear HX2 hB;have HX2:=HX3;clear HX3;have kb:=qaa HX2.out.box 0)
       |(go_at_call 308;refine(cAdd _ HX2.out).mono ?_;clear cAdd kb;rintro e w4 ⟨rfl,hK4,hG4⟩;have HX4:Hid (qcq W b s (p+1) (acc++[c]) wf w4):=HX2.out.keep HS0.out hK4 hG4;clear HX2 hK4 hG4;have kb:=qaa HX4.out.box 0)
       |(go_at_call 295;refine(qam _ b {s with pos:=p+1} _ HX4.out.src).mono ?_;rintro e w7 ⟨hF,rfl⟩;obtain rfl:=hF))
      exact⟨rfl,HX4.out.but,by show qaj _ _ _;unfold qaj qco;simp⟩
     ·rw[if_neg h0,HWF.out] at hr
      have HN:Hid (qbu s.bs s.lim g (p+1) (acc++[c]) wf=R):=hr
      have hb0:(qbb (acc.drop wh) c != 0)=true:=by simpa using h0
      rw[hb0] at cAdd
      have HP2:Hid (qjw ((acc++[c]).drop wf)=true):=qc5 HX.out.gat.le hpe.out h0 HWF.out
      clear h0 h32 hb0 hr
      go_wp2_with (first
       |(go_at_call 294;refine cT.mono ?_;clear cT kb;rintro e w2 ⟨rfl,hS,hB⟩;have HX2:=qac (HX.out.take hbN hS hB);clear HX hS hB;have kb:=qaa HX2.out.box 0)
       |(go_at_call 305;refine(cW _ HX2.out).mono ?_;clear cW kb;rintro e w3 ⟨rfl,hB⟩;have HX3:Hid (qcq W b s (p+1) acc wh w3):=HX2.out.below hB;clear HX2 hB;have HX2:=HX3;clear HX3;have kb:=qaa HX2.out.box 0)
       |(go_at_call 308;refine(cAdd _ HX2.out).mono ?_;clear cAdd kb;rintro e w4 ⟨rfl,hK4,hG4⟩;have HX4:Hid (qcq W b s (p+1) (acc++[c]) wf w4):=HX2.out.keep HS0.out hK4 hG4;clear HX2 hK4 hG4;have kb:=qaa HX4.out.box 0))
      go_roundg g
      case measure=>omega
      case rel=>exact⟨p+1,acc++[c],wf,by show _≤_;have:=hg.out;omega,HPL,by show _≤_;rw[List.length_append];have:=ha.out;simp;omega,HP2,HX4,HN⟩
    ·have f34:=nec (c:=c) 34 (by omega)
     by_cases g92:c.toNat=92
     ·have f92:((c.toNat:Int)==92)=true:=by simp;omega
      have h32:¬c.toNat<32:=by omega
      rw[if_neg h32] at hr
      have f32:decide ((c.toNat:Int)<32)=false:=by simp;omega
      clear g34 g92
      obtain⟨wf,HWF⟩:∃wf,Hid ((if qbb (acc.drop wh) c=2 then acc.length+1 else wh)=wf):=⟨_,show _=_ from rfl⟩
      have cAdd:=fun V (hV:qcq W b s (p+1) acc wh V)=>qdZ V (W.heap.size+1) (W.heap.size+2) acc wh c hV.gat hpe.out (HU.out V hV.but) (by omega) (by have:=ha.out;have:=hp.out;omega)
      rw[HWF.out] at cAdd
      by_cases h0:qbb (acc.drop wh) c=0
      ·rw[if_pos h0] at hr
       subst hr
       have hb0:(qbb (acc.drop wh) c != 0)=false:=by rw[h0];rfl
       rw[hb0] at cAdd
       clear h0 h32 hb0
       go_wp2_with (first
        |(go_at_call 294;refine cT.mono ?_;clear cT kb;rintro e w2 ⟨rfl,hS,hB⟩;have HX2:=qac (HX.out.take hbN hS hB);clear HX hS hB;have kb:=qaa HX2.out.box 0)
        |(go_at_call 305;refine(cW _ HX2.out).mono ?_;clear cW kb;rintro e w3 ⟨rfl,hB⟩;have HX3:Hid (qcq W b s (p+1) acc wh w3):=HX2.out.below hB;clear HX2 hB;have HX2:=HX3;clear HX3;have kb:=qaa HX2.out.box 0)
        |(go_at_call 308;refine(cAdd _ HX2.out).mono ?_;clear cAdd kb;rintro e w4 ⟨rfl,hK4,hG4⟩;have HX4:Hid (qcq W b s (p+1) (acc++[c]) wf w4):=HX2.out.keep HS0.out hK4 hG4;clear HX2 hK4 hG4;have kb:=qaa HX4.out.box 0)
        |(go_at_call 295;refine(qam _ b {s with pos:=p+1} _ HX4.out.src).mono ?_;rintro e w7 ⟨hF,rfl⟩;obtain rfl:=hF))
       exact⟨rfl,HX4.out.but,by show qaj _ _ _;unfold qaj qco;simp⟩
      ·rw[if_neg h0,HWF.out] at hr
       have HN:Hid (qbu s.bs s.lim g (p+1) (acc++[c]) wf=R):=hr
       have hb0:(qbb (acc.drop wh) c != 0)=true:=by simpa using h0
       rw[hb0] at cAdd
       have HP2:Hid (qjw ((acc++[c]).drop wf)=true):=qc5 HX.out.gat.le hpe.out h0 HWF.out
       clear h0 h32 hb0 hr
       go_wp2_with (first
        |(go_at_call 294;refine cT.mono ?_;clear cT kb;rintro e w2 ⟨rfl,hS,hB⟩;have HX2:=qac (HX.out.take hbN hS hB);clear HX hS hB;have kb:=qaa HX2.out.box 0)
        |(go_at_call 305;refine(cW _ HX2.out).mono ?_;clear cW kb;rintro e w3 ⟨rfl,hB⟩;have HX3:Hid (qcq W b s (p+1) acc wh w3):=HX2.out.below hB;clear HX2 hB;have HX2:=HX3;clear HX3;have kb:=qaa HX2.out.box 0)
        |(go_at_call 308;refine(cAdd _ HX2.out).mono ?_;clear cAdd kb;rintro e w4 ⟨rfl,hK4,hG4⟩;have HX4:Hid (qcq W b s (p+1) (acc++[c]) wf w4):=HX2.out.keep HS0.out hK4 hG4;clear HX2 hK4 hG4;have kb:=qaa HX4.out.box 0))
       go_roundg g
       case measure=>omega
       case rel=>exact⟨p+1,acc++[c],wf,by show _≤_;have:=hg.out;omega,HPL,by show _≤_;rw[List.length_append];have:=ha.out;simp;omega,HP2,HX4,HN⟩
     ·have f92:=nec (c:=c) 92 (by omega)
      clear g34 g92
      by_cases h32:c.toNat<32
      ·rw[if_pos h32] at hr
       subst hr
       have f32:decide ((c.toNat:Int)<32)=true:=by simp;omega
       clear h32 cW
       go_wp2_with (first
        |(go_at_call 294;refine cT.mono ?_;clear cT kb;rintro e w2 ⟨rfl,hS,hB⟩;have HX2:=qac (HX.out.take hbN hS hB);clear HX hS hB;have kb:=qaa HX2.out.box 0)
        |(go_at_call 295;refine(qam _ b {s with pos:=p+1} _ HX2.out.src).mono ?_;rintro e w7 ⟨hF,rfl⟩;obtain rfl:=hF))
       exact⟨rfl,HX2.out.but,by show qaj _ _ _;unfold qaj qco;simp⟩
      rw[if_neg h32] at hr
      have f32:decide ((c.toNat:Int)<32)=false:=by simp;omega
      obtain⟨wf,HWF⟩:∃wf,Hid ((if qbb (acc.drop wh) c=2 then acc.length+1 else wh)=wf):=⟨_,show _=_ from rfl⟩
      have cAdd:=fun V (hV:qcq W b s (p+1) acc wh V)=>qdZ V (W.heap.size+1) (W.heap.size+2) acc wh c hV.gat hpe.out (HU.out V hV.but) (by omega) (by have:=ha.out;have:=hp.out;omega)
      rw[HWF.out] at cAdd
      by_cases h0:qbb (acc.drop wh) c=0
      ·rw[if_pos h0] at hr
       subst hr
       have hb0:(qbb (acc.drop wh) c != 0)=false:=by rw[h0];rfl
       rw[hb0] at cAdd
       clear h0 h32 hb0 cW
       go_wp2_with (first
        |(go_at_call 294;refine cT.mono ?_;clear cT kb;rintro e w2 ⟨rfl,hS,hB⟩;have HX2:=qac (HX.out.take hbN hS hB);clear HX hS hB;have kb:=qaa HX2.out.box 0)
        |(go_at_call 308;refine(cAdd _ HX2.out).mono ?_;clear cAdd kb;rintro e w4 ⟨rfl,hK4,hG4⟩;have HX4:Hid (qcq W b s (p+1) (acc++[c]) wf w4):=HX2.out.keep HS0.out hK4 hG4;clear HX2 hK4 hG4;have kb:=qaa HX4.out.box 0)
        |(go_at_call 295;refine(qam _ b {s with pos:=p+1} _ HX4.out.src).mono ?_;rintro e w7 ⟨hF,rfl⟩;obtain rfl:=hF))
       exact⟨rfl,HX4.out.but,by show qaj _ _ _;unfold qaj qco;simp⟩
      ·rw[if_neg h0,HWF.out] at hr
       have HN:Hid (qbu s.bs s.lim g (p+1) (acc++[c]) wf=R):=hr
       have hb0:(qbb (acc.drop wh) c != 0)=true:=by simpa using h0
       rw[hb0] at cAdd
       have HP2:Hid (qjw ((acc++[c]).drop wf)=true):=qc5 HX.out.gat.le hpe.out h0 HWF.out
       clear h0 h32 hb0 hr cW
       go_wp2_with (first
        |(go_at_call 294;refine cT.mono ?_;clear cT kb;rintro e w2 ⟨rfl,hS,hB⟩;have HX2:=qac (HX.out.take hbN hS hB);clear HX hS hB;have kb:=qaa HX2.out.box 0)
        |(go_at_call 308;refine(cAdd _ HX2.out).mono ?_;clear cAdd kb;rintro e w4 ⟨rfl,hK4,hG4⟩;have HX4:Hid (qcq W b s (p+1) (acc++[c]) wf w4):=HX2.out.keep HS0.out hK4 hG4;clear HX2 hK4 hG4;have kb:=qaa HX4.out.box 0))
       go_roundg g
       case measure=>omega
       case rel=>exact⟨p+1,acc++[c],wf,by show _≤_;have:=hg.out;omega,HPL,by show _≤_;rw[List.length_append];have:=ha.out;simp;omega,HP2,HX4,HN⟩
def qbt (bs:List UInt8)(lim:Int):Nat→Nat→List UInt8→Nat→Except (Int×Int) (List UInt8×Nat)
 |0,p,acc,wh=>if wh=acc.length then .ok (acc,p) else .error (9,(p:Int)-1)
 |k+1,p,acc,wh=>match bs[p]? with
  |none=>.error (9,p)
  |some c=>if (p:Int)=lim then .error (8,p) else if qbb (acc.drop wh) c=0 then .error (9,p) else
   qbt bs lim k (p+1) (acc++[c]) (if qbb (acc.drop wh) c=2 then acc.length+1 else wh)
structure qhh (W:World)(b:Nat)(fv:Value)(s:Src)(p:Nat)(acc:List UInt8)(wh:Nat)(V:World):Prop where
 src:qad V b {s with pos:=p}
 but:But b W V
 box:V.heap[W.heap.size]? = some (.cells #[.pointer (some ⟨b,0,none⟩),fv] 201)
 gat:qbU V (W.heap.size+1) (W.heap.size+2) acc wh
theorem qhh.take {W V V':World}{b:Nat}{fv:Value}{s:Src}{p q:Nat}{acc:List UInt8}{wh:Nat}(h:qhh W b fv s p acc wh V)(hb:b<W.heap.size)(hs:qad V' b {s with pos:=q})(hB:But b V V'):qhh W b fv s q acc wh V' :=
 ⟨hs,h.but.trans hB,(hB.block _ (ltA h.box) (by omega)).trans h.box,h.gat.but hB (by omega) (by omega)⟩
theorem qhh.below {W V V':World}{b:Nat}{fv:Value}{s:Src}{p:Nat}{acc:List UInt8}{wh:Nat}(h:qhh W b fv s p acc wh V)(hB:Below V.heap.size V V'):qhh W b fv s p acc wh V' :=
 ⟨h.src.below hB,h.but.trans (But.of_below hB),(hB.block _ (ltA h.box)).trans h.box,h.gat.below hB⟩
theorem qhh.keep {W V V':World}{b:Nat}{fv:Value}{s:Src}{p:Nat}{acc acc':List UInt8}{wh wh':Nat}(h:qhh W b fv s p acc wh V)(h0:qad W b s)(hK:qcl (W.heap.size+1) (W.heap.size+2) V V')(hg:qbU V' (W.heap.size+1) (W.heap.size+2) acc' wh'):qhh W b fv s p acc' wh' V' :=
 ⟨h0.same rfl rfl h.src (fun k hk=>hK.block k (by omega) (by omega)),⟨hK.os.trans h.but.os,hK.tape.trans h.but.tape,hK.output.trans h.but.output,Nat.le_trans h.but.size hK.size,fun k hk hn=>(hK.block k (by omega) (by omega)).trans (h.but.block k hk hn)⟩,(hK.block _ (by omega) (by omega)).trans h.box,hg⟩
theorem qn5 {W:World}{b:Nat}{s:Src}(fv:Value)(h:qad W b s):qhh W b fv s s.pos [] 0 ((W.alloc (.cells #[.pointer (some ⟨b,0,none⟩),fv] 201)).alloc (.cells #[.slice none 0 0,.int .i64 0] 409)):=by
 have hB:Below W.heap.size W ((W.alloc (.cells #[.pointer (some ⟨b,0,none⟩),fv] 201)).alloc (.cells #[.slice none 0 0,.int .i64 0] 409)):=(bwA).alloc (by simp) _
 have hg:=qab (W.alloc (.cells #[.pointer (some ⟨b,0,none⟩),fv] 201)) (.cells #[.slice none 0 0,.int .i64 0] 409)
 rw[World.size_alloc] at hg
 refine⟨h.below hB,But.of_below hB,?_,⟨⟨_,hg,?_⟩,by omega,Nat.le_refl _⟩⟩
 ·have h0:=qab W (.cells #[.pointer (some ⟨b,0,none⟩),fv] 201)
  exact(Below.heap_alloc _ _ _ (by simp)).trans h0
 ·refine⟨World.ownsRow_nil _ _ _ _,?_,none,0,0,rfl⟩
  simp
theorem qdi (W:World)(b:Nat)(s:Src)(f n:Nat)(hn:n<18446744073709551616)(h:qad W b s)(ht:U8 W)(h7:7<b)(hlen:s.bs.length≤200000000):Calls prog 329 #[.agg #[.pointer (some ⟨b,0,none⟩),.func (.func f) #[] #[]],.int .u64 n] W (qer W b s (fun l:List UInt8=>.string ⟨l.toArray⟩) (qbt s.bs s.lim n s.pos [] 0)):=by
 have HX0:Hid (qhh W b (.func (.func f) #[] #[]) s s.pos [] 0 ((W.alloc (.cells #[.pointer (some ⟨b,0,none⟩),.func (.func f) #[] #[]] 201)).alloc (.cells #[.slice none 0 0,.int .i64 0] 409))):=qn5 _ h
 have HS0:Hid (qad W b s):=h
 have HT:Hid (U8 W):=ht
 have hbN:b<W.heap.size:=ltA h.row
 have hle:=h.le
 obtain⟨R,HR⟩:∃R,Hid (qbt s.bs s.lim n s.pos [] 0=R):=⟨_,show _=_ from rfl⟩
 rw[HR.out]
 clear h ht
 go_enter func329,ntmps329
 go_wp2
 generalize (W.alloc (.cells #[.pointer (some ⟨b,0,none⟩),.func (.func f) #[] #[]] 201)).alloc (.cells #[.slice none 0 0,.int .i64 0] 409)=W0 at *
 go_loopg [7] n (fun g z wr=>∃(k p:Nat) (acc:List UInt8) (wh:Nat),z=.int .u64 k∧Hid (k+g=n)∧Hid (p≤s.bs.length)∧Hid (acc.length≤p)∧Hid (qjw (acc.drop wh)=true)∧Hid (qhh W b (.func (.func f) #[] #[]) s p acc wh wr)∧Hid (qbt s.bs s.lim g p acc wh=R))
 case atStart=>exact⟨0,s.pos,[],0,rfl,by show _=_;omega,hle,by show 0≤_;omega,rfl,HX0,HR⟩
 case round =>
  clear HX0 HR
  obtain⟨k,p,acc,wh,rfl,hg,hp,ha,hpe,HX,HR⟩:=hrel
  have kb:=qaa HX.out.box 0
  have HU:Hid (∀V,But b W V→U8 V):=by
   show ∀V,_
   intro V hV
   have hc:∀(q off:Nat) (v:Value),q≤7→W.cell? ⟨q,off,none⟩=some v→V.cell? ⟨q,off,none⟩=some v:=fun q off v hq hv=>(World.cell?_of_block (w:=W) (hV.block q (by omega) (by omega))).trans hv
   exact⟨fun c hc'=>hc _ _ _ (by decide) (HT.out.1 c hc'),fun i hi=>⟨hc _ _ _ (by decide) (HT.out.2 i hi).1,hc _ _ _ (by decide) (HT.out.2 i hi).2⟩⟩
  cases gk with
  |zero =>
   have hk:k=n:=by have:=hg.out;omega
   subst hk
   have hr:=HR.out
   rw[qbt] at hr
   have cW:=qef wr (W.heap.size+1) (W.heap.size+2) acc wh HX.out.gat
   clear HR hg
   by_cases hw:wh=acc.length
   ·rw[if_pos hw] at hr
    subst hr
    rw[decide_eq_true hw] at cW
    clear hw
    go_wp2_with (first
     |(go_at_call 305;refine cW.mono ?_;clear cW kb;rintro e w3 ⟨rfl,hB⟩;have HX3:Hid (qhh W b (.func (.func f) #[] #[]) s p acc wh w3):=HX.out.below hB;clear HX hB;obtain⟨v3,r3,o3⟩:=HX3.out.gat.row;obtain⟨_,_,a3,n3,c3,rfl⟩:=(show Own w3 _ _ _ from o3);have hcv:=qf9 o3;have k3:=qaa r3 0))
    go_ret
    exact⟨HX3.out.but,rfl,HX3.out.src⟩
   ·rw[if_neg hw] at hr
    subst hr
    rw[decide_eq_false hw] at cW
    clear hw
    go_wp2_with (first
     |(go_at_call 305;refine cW.mono ?_;clear cW kb;rintro e w3 ⟨rfl,hB⟩;have HX3:Hid (qhh W b (.func (.func f) #[] #[]) s p acc wh w3):=HX.out.below hB;clear HX hB;have kb:=qaa HX3.out.box 0)
     |(go_at_call 295;refine(qam _ b {s with pos:=p} _ HX3.out.src).mono ?_;rintro e w7 ⟨hF,rfl⟩;obtain rfl:=hF))
    exact⟨rfl,HX3.out.but,rfl,_,HX3.out.src⟩
  |succ g =>
   have hkn:k<n:=by have:=hg.out;omega
   have e1:decide ((k:Int)<(n:Int))=true:=by simp;omega
   have e2:decide (k<n)=true:=by simp;omega
   rcases qaO HX.out.src with h1|h1|⟨c,h1⟩
   ·have HE:Hid (R=.error (9,(p:Int))):=by
     show _=_
     rw[←HR.out,qbt,List.getElem?_eq_none (by have:p=s.bs.length:=h1;omega)]
    have cT:=qbe _ b {s with pos:=p} HX.out.src h1
    clear HR h1
    go_wp2_with (first
     |(go_at_call 294;refine cT.mono ?_;clear cT;rintro e w2 ⟨hF,hB⟩;obtain rfl:=hF))
    rw[HE.out]
    exact⟨rfl,HX.out.but.trans (But.of_below hB),rfl,_,HX.out.src.below hB⟩
   ·have HE:Hid (R=.error (8,(p:Int))):=by
     show _=_
     have h2:(p:Int)=s.lim:=h1.2
     have h3:p<s.bs.length:=h1.1
     rw[←HR.out,qbt,List.getElem?_eq_getElem h3]
     simp only[]
     rw[if_pos h2]
    have cT:=qaN _ b {s with pos:=p} HX.out.src h1
    clear HR h1
    go_wp2_with (first
     |(go_at_call 294;refine cT.mono ?_;clear cT;rintro e w2 ⟨hF,hB⟩;obtain rfl:=hF))
    rw[HE.out]
    exact⟨rfl,HX.out.but.trans (But.of_below hB),rfl,_,HX.out.src.below hB⟩
   ·have hc1:s.bs[p]? = some c:=h1.1
    have hc2:¬(p:Int)=s.lim:=h1.2
    have HPL:Hid (p<s.bs.length):=h1.lt
    have hr:=HR.out
    rw[qbt,hc1] at hr
    simp only[] at hr
    rw[if_neg hc2] at hr
    have cT:Calls prog 294 #[.pointer (some ⟨b,0,none⟩)] wr fun e W'=>e=.returned (.int .u8 c.toNat)∧qad W' b {s with pos:=p+1}∧But b wr W':=qax _ b {s with pos:=p} c HX.out.src h1
    clear h1 hc1 hc2 HR
    obtain⟨wf,HWF⟩:∃wf,Hid ((if qbb (acc.drop wh) c=2 then acc.length+1 else wh)=wf):=⟨_,show _=_ from rfl⟩
    have cAdd:=fun V (hV:qhh W b (.func (.func f) #[] #[]) s (p+1) acc wh V)=>qdZ V (W.heap.size+1) (W.heap.size+2) acc wh c hV.gat hpe.out (HU.out V hV.but) (by omega) (by have:=ha.out;have:=hp.out;omega)
    rw[HWF.out] at cAdd
    by_cases h0:qbb (acc.drop wh) c=0
    ·rw[if_pos h0] at hr
     subst hr
     have hb0:(qbb (acc.drop wh) c != 0)=false:=by rw[h0];rfl
     rw[hb0] at cAdd
     clear h0 hb0
     go_wp2_with (first
      |(go_at_call 294;refine cT.mono ?_;clear cT kb;rintro e w2 ⟨rfl,hS,hB⟩;have HX2:=qac (HX.out.take hbN hS hB);clear HX hS hB)
      |(go_at_call 308;refine(cAdd _ HX2.out).mono ?_;clear cAdd;rintro e w4 ⟨rfl,hK4,hG4⟩;have HX4:Hid (qhh W b (.func (.func f) #[] #[]) s (p+1) (acc++[c]) wf w4):=HX2.out.keep HS0.out hK4 hG4;clear HX2 hK4 hG4;have kb:=qaa HX4.out.box 0)
      |(go_at_call 295;refine(qam _ b {s with pos:=p+1} _ HX4.out.src).mono ?_;rintro e w7 ⟨hF,rfl⟩;obtain rfl:=hF))
     exact⟨rfl,HX4.out.but,by show qaj _ _ _;unfold qaj qco;simp,_,HX4.out.src⟩
    ·rw[if_neg h0,HWF.out] at hr
     have HN:Hid (qbt s.bs s.lim g (p+1) (acc++[c]) wf=R):=hr
     have hb0:(qbb (acc.drop wh) c != 0)=true:=by simpa using h0
     rw[hb0] at cAdd
     have HP2:Hid (qjw ((acc++[c]).drop wf)=true):=qc5 HX.out.gat.le hpe.out h0 HWF.out
     clear h0 hb0 hr
     go_wp2_with (first
      |(go_at_call 294;refine cT.mono ?_;clear cT kb;rintro e w2 ⟨rfl,hS,hB⟩;have HX2:=qac (HX.out.take hbN hS hB);clear HX hS hB)
      |(go_at_call 308;refine(cAdd _ HX2.out).mono ?_;clear cAdd;rintro e w4 ⟨rfl,hK4,hG4⟩;have HX4:Hid (qhh W b (.func (.func f) #[] #[]) s (p+1) (acc++[c]) wf w4):=HX2.out.keep HS0.out hK4 hG4;clear HX2 hK4 hG4))
     go_roundg g
     case measure=>omega
     case rel=>exact⟨k+1,p+1,acc++[c],wf,by go_num,by show _=_;have:=hg.out;omega,HPL,by show _≤_;rw[List.length_append];have:=ha.out;simp;omega,HP2,HX4,HN⟩
end
end Go.Proofs.YtllcbnfmihfaaaaGreatDoor
