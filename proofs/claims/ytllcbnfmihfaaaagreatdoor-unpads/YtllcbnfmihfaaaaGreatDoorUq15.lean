import Derived.Test.YtllcbnfmihfaaaaGreatDoorUq11
import Derived.Test.YtllcbnfmihfaaaaGreatDoorUq13
import Derived.Test.YtllcbnfmihfaaaaGreatDoorUq08
set_option maxRecDepth 100000
set_option maxHeartbeats 8000000
namespace Go.Proofs.YtllcbnfmihfaaaaGreatDoor
open Go.Proofs.Tryz
section
open Go.RowKit
def qaE (rd:Nat→Except (Int×Int) (DataW Unit×Nat)):Nat→Nat→List (DataW Unit)→Except (Int×Int) (List (DataW Unit)×Nat)
 |0,p,acc=>.ok (acc,p)
 |k+1,p,acc=>match rd p with
  |.error e=>.error e
  |.ok (d,q)=>qaE rd k q (acc++[d])
def qbT (hd:Nat→Nat×Nat×Nat)(bs:List UInt8)(lim:Int)(ks:List (List UInt8))(p:Nat):Except (Int×Int) (List UInt8×Nat) :=
 match bs[p]? with
 |none=>.error (9,p)
 |some c=>if (p:Int)=lim then .error (8,p) else if (hd c.toNat).1=8 then
   match qa0 bs lim (hd c.toNat).2.1 (p+1) (hd c.toNat).2.2 with
   |.error e=>.error e
   |.ok (x,q)=>match qbt bs lim x q [] 0 with
    |.error e=>.error e
    |.ok (l,r)=>if l∈ks then .error (12,(r:Int)-1) else .ok (l,r)
  else .error (9,p)
def qau (kf:List (List UInt8)→Nat→Except (Int×Int) (List UInt8×Nat))(rd:Nat→Except (Int×Int) (DataW Unit×Nat)):Nat→Nat→List (List UInt8)→List (Lit×DataW Unit)→Except (Int×Int) (List (Lit×DataW Unit)×Nat)
 |0,p,_,acc=>.ok (acc,p)
 |k+1,p,ks,acc=>match kf ks p with
  |.error e=>.error e
  |.ok (l,q)=>match rd q with
   |.error e=>.error e
   |.ok (d,r)=>qau kf rd k r (l::ks) (acc++[(.string l,d)])
def qej (bs:List UInt8)(lim:Int)(li:Nat→Nat→Except (Int×Int) (List (DataW Unit)×Nat))(ma:Nat→Nat→Except (Int×Int) (List (Lit×DataW Unit)×Nat))(so w x q:Nat):Except (Int×Int) (DataW Unit×Nat) :=
 match so with
 |2=>.ok (.lit (.bool false),q)
 |3=>.ok (.lit (.bool true),q)
 |4=>match nbF 4 w x q with
  |.error e=>.error e
  |.ok z=>.ok (.lit (.int .i64 z),q)
 |5=>match nbF 5 w x q with
  |.error e=>.error e
  |.ok z=>.ok (.lit (.int .i64 z),q)
 |6=>match nbF 6 w x q with
  |.error e=>.error e
  |.ok z=>.ok (.lit (.int .i64 z),q)
 |7=>match qch bs lim x q [] with
  |.error e=>.error e
  |.ok (l,r)=>.ok (.ptr (.lit (.string l)),r)
 |8=>match qbt bs lim x q [] 0 with
  |.error e=>.error e
  |.ok (l,r)=>.ok (.lit (.string l),r)
 |9=>match li x q with
  |.error e=>.error e
  |.ok (ds,r)=>.ok (.agg ds,r)
 |10=>match ma x q with
  |.error e=>.error e
  |.ok (es,r)=>.ok (.map es,r)
 |_=>.ok (.nil,q)
def thB (hd:Nat→Nat×Nat×Nat)(bs:List UInt8)(lim depth:Int):Nat→Nat→Nat→Except (Int×Int) (DataW Unit×Nat)
 |0,_,_=>.error (0,0)
 |g+1,wi,p=>match bs[p]? with
  |none=>.error (9,p)
  |some c=>if (p:Int)=lim then .error (8,p) else if (hd c.toNat).1=0 then .error (9,p) else
   if ((hd c.toNat).1=9∨(hd c.toNat).1=10)∧(wi:Int)=depth then .error (11,p) else
   match qa0 bs lim (hd c.toNat).2.1 (p+1) (hd c.toNat).2.2 with
   |.error e=>.error e
   |.ok (x,q)=>qej bs lim (fun x q=>qaE (thB hd bs lim depth g (wi+1)) x q []) (fun x q=>qau (qbT hd bs lim) (thB hd bs lim depth g (wi+1)) x q [] []) (hd c.toNat).1 (hd c.toNat).2.1 x q
theorem qdV {hd:Nat→Nat×Nat×Nat}{bs:List UInt8}{lim depth:Int}{g wi p:Nat}{c:UInt8}{so w ar:Nat}(h1:bs[p]? = some c)(h2:¬(p:Int)=lim)(h3:hd c.toNat=(so,w,ar)):thB hd bs lim depth (g+1) wi p=(if so=0 then .error (9,(p:Int)) else if (so=9∨so=10)∧(wi:Int)=depth then .error (11,(p:Int)) else
   match qa0 bs lim w (p+1) ar with
   |.error e=>.error e
   |.ok (x,q)=>qej bs lim (fun x q=>qaE (thB hd bs lim depth g (wi+1)) x q []) (fun x q=>qau (qbT hd bs lim) (thB hd bs lim depth g (wi+1)) x q [] []) so w x q):=by
 conv=>lhs;unfold thB
 rw[h1]
 simp only[]
 rw[if_neg h2,h3]
def qha (k:Nat)(W:World)(b:Nat)(s:Src)(r:Except (Int×Int) (DataW Unit×Nat))(e:Ending)(W':World):Prop :=
 But b W W'∧match r with
 |.ok (d,p)=>(∃t y,e=.returned (.iface t y)∧qa2 k W' (fun j=>W.heap.size≤j∧j<W'.heap.size) (.iface t y) d)∧qad W' b {s with pos:=p}
 |.error (en,pl)=>qaj en pl e∧∃p,qad W' b {s with pos:=p}
def qgY (k f b:Nat)(s:Src)(W0:World)(rd:Nat→Except (Int×Int) (DataW Unit×Nat)):Prop :=
 ∀(V:World) (p:Nat),qad V b {s with pos:=p}→But b W0 V→Calls prog 325 #[.agg #[.pointer (some ⟨b,0,none⟩),.func (.func f) #[] #[]]] V (qha k V b {s with pos:=p} (rd p))
structure qkg (k:Nat)(W:World)(b:Nat)(fv:Value)(s:Src)(p:Nat)(v:Value)(ds:List (DataW Unit))(V:World):Prop where
 src:qad V b {s with pos:=p}
 but:But b W V
 box:V.heap[W.heap.size]? = some (.cells #[.pointer (some ⟨b,0,none⟩),fv] 201)
 own:∃xs,V.ownsRow (W.heap.size+1) 81 1 v ds.length xs∧∀(i:Nat) (x:Value) (d:DataW Unit),xs[i]? = some x→ds[i]? = some d→qa2 k V (fun j=>W.heap.size+1≤j∧j<V.heap.size∧some j≠v.ownBlock) x d
 size:W.heap.size+1≤V.heap.size
theorem qcn {W W':World}{b base:Nat}{t:TypeId}{size:Nat}{v:Value}{n:Nat}{xs:List Value}(h:W.ownsRow base t size v n xs)(hB:But b W W')(hn:b<base):W'.ownsRow base t size v n xs:=by
 obtain⟨h1,h2⟩:=h
 refine⟨h1,?_⟩
 rcases h2 with h2|⟨g,cap,cur,e,hb,hg,h5⟩
 ·exact .inl h2
 ·exact .inr ⟨g,cap,cur,e,hb,(hB.block g (ltA hg) (by omega)).trans hg,h5⟩
theorem qkg.but' {k:Nat}{W V V':World}{b:Nat}{fv v:Value}{s:Src}{p q:Nat}{ds:List (DataW Unit)}(h:qkg k W b fv s p v ds V)(hb:b<W.heap.size)(hs:qad V' b {s with pos:=q})(hB:But b V V'):qkg k W b fv s q v ds V':=by
 obtain⟨xs,h1,h2⟩:=h.own
 refine⟨hs,h.but.trans hB,(hB.block _ (ltA h.box) (by omega)).trans h.box,⟨xs,qcn h1 hB (by omega),fun i x d hx hd => ?_⟩,Nat.le_trans h.size hB.size⟩
 refine(h2 i x d hx hd).same (fun j hj=>⟨hj.1,Nat.lt_of_lt_of_le hj.2.1 hB.size,hj.2.2⟩) (fun j hj=>hB.block j hj.2.1 (by omega))
theorem qnr {W:World}{b:Nat}{s:Src}(k:Nat)(fv:Value)(h:qad W b s):qkg k W b fv s s.pos (.slice none 0 0) [] (W.alloc (.cells #[.pointer (some ⟨b,0,none⟩),fv] 201)):=by
 have hB:Below W.heap.size W (W.alloc (.cells #[.pointer (some ⟨b,0,none⟩),fv] 201)):=bwA
 exact⟨h.below hB,But.of_below hB,qab W _,⟨[],World.ownsRow_nil _ _ _ _,fun i x d hx=>by simp at hx⟩,by simp⟩
theorem qkg.push {k:Nat}{W V w5:World}{b:Nat}{fv v v' x:Value}{s:Src}{p:Nat}{ds:List (DataW Unit)}{d:DataW Unit}{xs:List Value}{V0:World}(h:qkg k W b fv s p v ds V)(h0:qad W b s)(ho:V.ownsRow (W.heap.size+1) 81 1 v ds.length xs)(hx:∀(i:Nat) (x:Value) (d:DataW Unit),xs[i]? = some x→ds[i]? = some d→qa2 k V (fun j=>W.heap.size+1≤j∧j<V.heap.size∧some j≠v.ownBlock) x d)(hd:qa2 k V (fun j=>V0.heap.size≤j∧j<V.heap.size) x d)(hv0:∀g,v.ownBlock=some g→g<V0.heap.size)(hW0:W.heap.size+1≤V0.heap.size)(ho':w5.ownsRow (W.heap.size+1) 81 1 v' (ds.length+1) (xs++[x]))(hg:(V.alloc (.cells #[x] 81)).grownBy w5 v.ownBlock)(hw:v'.ownBlock=v.ownBlock∨v'.ownBlock=some (V.alloc (.cells #[x] 81)).heap.size):qkg k W b fv s p v' (ds++[d]) w5:=by
 have hsz:=h.size
 have hgs:V.heap.size+1≤w5.heap.size:=by have:=hg.size;simpa using this
 have key:∀g,v.ownBlock=some g→W.heap.size+1≤g:=fun g hg=>qaQ ho hg
 have hkeep:∀j,j<V.heap.size→some j≠v.ownBlock→w5.heap[j]? = V.heap[j]?:=fun j hj hn=>(hg.block j (by simp;omega) hn).trans (Below.heap_alloc _ _ _ hj)
 have hlow:∀j,j<W.heap.size+1→w5.heap[j]? = V.heap[j]?:=fun j hj=>hkeep j (by omega) (fun e=>by have:=key j e.symm;omega)
 refine⟨h0.same rfl rfl h.src (fun j hj=>hlow j (by omega)),⟨hg.os.trans h.but.os,hg.tape.trans h.but.tape,hg.output.trans h.but.output,by have:=h.but.size;omega,fun j hj hn=>(hlow j (by omega)).trans (h.but.block j hj hn)⟩,(hlow _ (by omega)).trans h.box,⟨xs++[x],by rw[List.length_append];exact ho',fun i y c hy hc => ?_⟩,by omega⟩
 have hne:∀j,j<V.heap.size→some j≠v.ownBlock→some j≠v'.ownBlock:=fun j hj hn=>by
  rcases hw with hw|hw
  ·rw[hw];exact hn
  ·rw[hw];intro e;injection e with e;simp at e;omega
 have hxl:xs.length=ds.length:=by have:=ho.1;omega
 by_cases hi:i<ds.length
 ·rw[List.getElem?_append_left (by omega)] at hy hc
  exact(hx i y c hy hc).same (fun j hj=>⟨hj.1,by have:=hj.2.1;omega,hne j hj.2.1 hj.2.2⟩) (fun j hj=>hkeep j hj.2.1 hj.2.2)
 ·have e:i=ds.length:=by
   have:=ltL hc
   rw[List.length_append] at this
   simp at this
   omega
  subst e
  rw[List.getElem?_append_right (by omega)] at hc
  rw[List.getElem?_append_right (by omega),hxl] at hy
  simp at hy hc
  subst hy
  subst hc
  have hoff:∀j,V0.heap.size≤j→some j≠v.ownBlock:=fun j hj e=>by have:=hv0 j e.symm;omega
  exact hd.same (fun j hj=>⟨by omega,by omega,hne j hj.2 (hoff j hj.1)⟩) (fun j hj=>hkeep j hj.2 (hoff j hj.1))
theorem qiX {V:World}{base:Nat}{t:TypeId}{size:Nat}{v:Value}{n:Nat}{xs:List Value}(h:V.ownsRow base t size v n xs):∀g,v.ownBlock=some g→g<V.heap.size:=fun g hg=>by
 rcases h.2 with ⟨h0,_⟩|⟨g',cap,cur,rfl,hb',hh,_⟩
 ·subst h0;cases hg
 ·cases hg;exact ltA hh
theorem qkg.row {k:Nat}{W V:World}{b:Nat}{fv v:Value}{s:Src}{p:Nat}{ds:List (DataW Unit)}(h:qkg k W b fv s p v ds V):qa2 (k+1) V (fun j=>W.heap.size≤j∧j<V.heap.size) (.iface 204 v) (.agg ds):=by
 obtain⟨xs,h1,h2⟩:=h.own
 unfold qa2
 refine⟨v,xs,rfl,⟨h1.1,?_⟩,fun i x d hx hd=>(h2 i x d hx hd).same (fun j hj=>⟨by omega,hj.2.1⟩) (fun _ _=>rfl)⟩
 rcases h1.2 with h3|⟨g,cap,cur,e,hb,hg,h5⟩
 ·exact .inl h3
 ·exact .inr ⟨g,cap,cur,e,⟨by omega,(ltA hg)⟩,hg,h5⟩
theorem Tryz.infoThing:(prog.info? 81).map (fun i=>(i.zero,i.size,i.bytes))=some (some .nilIface,1,16):=by kernel_rfl
theorem qgF (k:Nat)(W:World)(b:Nat)(s:Src)(f n:Nat)(rd:Nat→Except (Int×Int) (DataW Unit×Nat))(hn:n<18446744073709551616)(h:qad W b s)(hlen:s.bs.length≤200000000)(hrd:qgY k f b s W rd)(hgo:∀p d q,rd p=.ok (d,q)→p<q):Calls prog 330 #[.agg #[.pointer (some ⟨b,0,none⟩),.func (.func f) #[] #[]],.int .u64 n] W (qeQ W b s (fun V v ds=>(∃a n c,v=.slice a n c)∧qa2 (k+1) V (fun j=>W.heap.size≤j∧j<V.heap.size) (.iface 204 v) (.agg ds)) (qaE rd n s.pos [])):=by
 obtain⟨i0,hi,hz0,hz1,hz2⟩:=info_parts Tryz.infoThing
 have HX0:Hid (qkg k W b (.func (.func f) #[] #[]) s s.pos (.slice none 0 0) [] (W.alloc (.cells #[.pointer (some ⟨b,0,none⟩),.func (.func f) #[] #[]] 201))):=qnr _ _ h
 have HS0:Hid (qad W b s):=h
 have HRD:Hid (qgY k f b s W rd):=hrd
 have HGO:Hid (∀p d q,rd p=.ok (d,q)→p<q):=hgo
 have hbN:b<W.heap.size:=ltA h.row
 have hle:=h.le
 obtain⟨R,HR⟩:∃R,Hid (qaE rd n s.pos []=R):=⟨_,show _=_ from rfl⟩
 rw[HR.out]
 clear h hrd hgo
 go_enter func330,ntmps330
 go_wp2
 generalize W.alloc (.cells #[.pointer (some ⟨b,0,none⟩),.func (.func f) #[] #[]] 201)=W0 at *
 go_loopg [5,7] n (fun g y z wr=>∃(m p:Nat) (a:Option Addr) (l c:Nat) (ds:List (DataW Unit)),y=.slice a l c∧z=.int .u64 m∧Hid (m+g=n)∧Hid (p≤s.bs.length)∧Hid (ds.length≤p)∧Hid (qkg k W b (.func (.func f) #[] #[]) s p (.slice a l c) ds wr)∧Hid (qaE rd g p ds=R))
 case atStart=>exact⟨0,s.pos,none,0,0,[],rfl,rfl,by show _=_;omega,hle,by show 0≤_;omega,HX0,HR⟩
 case round =>
  clear HX0 HR
  obtain⟨m,p,a,l,c0,ds,rfl,rfl,hg,hp,ha,HX,HR⟩:=hrel
  have kb:=qaa HX.out.box 0
  have kb1:=qaa HX.out.box 1
  cases gk with
  |zero =>
   have hk:m=n:=by have:=hg.out;omega
   subst hk
   have HE:Hid (R=.ok (ds,p)):=HR.out.symm
   clear HR hg
   go_wp2
   go_ret
   rw[HE.out]
   exact⟨HX.out.but,⟨_,rfl,⟨_,_,_,rfl⟩,HX.out.row⟩,HX.out.src⟩
  |succ g =>
   have hkn:m<n:=by have:=hg.out;omega
   have e1:decide ((m:Int)<(n:Int))=true:=by simp;omega
   have e2:decide (m<n)=true:=by simp;omega
   have cT:=HRD.out wr p HX.out.src HX.out.but
   have hr:=HR.out
   rw[qaE] at hr
   cases hq:rd p with
   |error er =>
    rw[hq] at hr cT
    simp only[] at hr
    obtain⟨en,pl⟩:=er
    have HE:Hid (R=.error (en,pl)):=hr.symm
    clear HR hr hq
    go_wp2_with (first
     |(go_at_call 325;refine cT.mono ?_;clear cT;rintro e w2 ⟨hB,hF⟩;obtain⟨hF,pz,hsz⟩:=(show qaj en pl e∧∃p,qad w2 b {s with pos:=p} from hF);obtain rfl:=hF))
    rw[HE.out]
    exact⟨rfl,HX.out.but.trans hB,rfl,pz,hsz⟩
   |ok dq =>
    obtain⟨d,q⟩:=dq
    rw[hq] at hr cT
    simp only[] at hr
    have hpq:=HGO.out p d q hq
    have HN:Hid (qaE rd g q (ds++[d])=R):=hr
    have hal:ds.length≤200000000:=by have:=ha.out;have:=hp.out;omega
    have HDL:Hid (ds.length+1≤q):=by show _≤_;have:=ha.out;omega
    have HVW:Hid (W.heap.size+1≤wr.heap.size):=HX.out.size
    have HOL:Hid (∀g,(Value.slice a l c0).ownBlock=some g→g<wr.heap.size):=by obtain⟨xs,h1,_⟩:=HX.out.own;exact qiX h1
    clear hr hq HR hpq ha hp
    go_wp2_with (first
     |(go_at_call 325;refine cT.mono ?_;clear cT kb kb1;rintro e w2 ⟨hB,hF⟩;obtain⟨⟨t,y,rfl,hd⟩,hS⟩:=(show(∃t y,e=.returned (.iface t y)∧qa2 k w2 (fun j=>wr.heap.size≤j∧j<w2.heap.size) (.iface t y) d)∧qad w2 b {s with pos:=q} from hF);have HX2:Hid (qkg k W b (.func (.func f) #[] #[]) s q (.slice a l c0) ds w2):=HX.out.but' hbN hS hB;have HD:Hid (qa2 k w2 (fun j=>wr.heap.size≤j∧j<w2.heap.size) (.iface t y) d):=hd;have HQ:Hid (q≤s.bs.length):=hS.le;clear HX hS hB hd hF;obtain⟨xs,hown,hxs⟩:=HX2.out.own;have HO:Hid (w2.ownsRow (W.heap.size+1) 81 1 (.slice a l c0) ds.length xs):=hown;have HXS:Hid (∀(i:Nat) (x:Value) (d:DataW Unit),xs[i]? = some x→ds[i]? = some d→qa2 k w2 (fun j=>W.heap.size+1≤j∧j<w2.heap.size∧some j≠(Value.slice a l c0).ownBlock) x d):=hxs;clear hown hxs;have HBS:Hid (W.heap.size+1≤w2.heap.size):=HX2.out.size)
     |(at_builtin;refine qag _ rfl _ _ 204 rfl (W.heap.size+1) 81 i0 .nilIface 1 16 underlying204 hi hz0 hz1 hz2 rfl (by decide) _ _ _ rfl (HO.out.alloc _) ⟨w2.heap.size,0,none⟩ 1 1 [.iface t y] rfl rfl (qa4 _ _ _) (fun u hu=>by simp at hu;subst hu;rfl) (by decide) (by unfold maxLen;omega) (by omega) (by simp;have:=HBS.out;omega) ?_;intro v' w5 hown' hgrow5 hw5;have HX5:Hid (qkg k W b (.func (.func f) #[] #[]) s q v' (ds++[d]) w5):=HX2.out.push HS0.out HO.out HXS.out HD.out HOL.out HVW.out hown' hgrow5 hw5;obtain⟨g5,cap5,rfl⟩:=ownsRow_succ hown';clear hown' hgrow5 hw5 HX2 HO HXS HD))
    go_roundg g
    case measure=>omega
    case rel=>exact⟨m+1,q,_,_,_,ds++[d],rfl,by go_num,by show _=_;have:=hg.out;omega,HQ,by show _≤_;rw[List.length_append];exact HDL.out,HX5,HN⟩
theorem qmP {P:Program}{c:Code}{Q:Exit→Act→World→Prop}{a:Act}{w:World}(T:Nat→World→Prop)(act:Nat→Act)(hr:(∀x V,T x V→Q .normal (act x) V)→c.wp P Q a w)(ht:∀x V,T x V→Q .normal (act x) V):c.wp P Q a w:=hr ht
theorem qj5 (W:World)(b k:Nat)(s:Src)(u:FrameMode)(h:qad W b s)(hk:s.within=k+1)(hw:s.within≤1000000):CallsD prog 317 #[.pointer (some ⟨b,0,none⟩)] u W fun e u' W'=>u'=u∧(e=.returned (.tuple #[])∧qad W' b {s with within:=k}∧But b W W'):=by
 have k4:W.cell? ⟨b,4,none⟩=some (.int .i64 ((k:Int)+1)):=by
  have:=qaa h.row 4
  rw[this]
  show some (Value.int .i64 (s.within:Int))=_
  rw[hk]
  rfl
 have f4:W.frozen? ⟨b,4,none⟩=false:=frozen_of_row W b 4 _ _ h.row
 have HN:Hid (qad (W.setCell ⟨b,4,none⟩ (.int .i64 k)) b {s with within:=k}∧But b W (W.setCell ⟨b,4,none⟩ (.int .i64 k))):=qd4 k 0 h
 have hk2:k≤1000000:=by omega
 clear h hk hw
 refine callsD_of_wp (R:=fun e W'=>e=.returned (.tuple #[])∧qad W' b {s with within:=k}∧But b W W') func317 rfl ?_
 simp only[ntmps317,List.size_toArray,List.length_cons,List.length_nil,Nat.reduceAdd,Nat.reduceSub,Array.replicate_succ,Array.replicate_zero,List.push_toArray,List.append_toArray,List.nil_append,List.cons_append]
 go_wp2
 go_end0
 exact⟨rfl,HN.out.1,HN.out.2⟩
theorem qcS (W:World)(b:Nat)(s:Src)(f:Nat)(en:Int)(h:qad W b s)(cT:∀V,qad V b s→Calls prog 294 #[.pointer (some ⟨b,0,none⟩)] V fun e W'=>qaj en s.pos e∧Below V.heap.size V W'):Calls prog 325 #[.agg #[.pointer (some ⟨b,0,none⟩),.func (.func f) #[] #[]]] W fun e W'=>But b W W'∧qaj en s.pos e∧∃p,qad W' b {s with pos:=p}:=by
 have HH:Hid (qad W b s):=h
 have hB1:Below W.heap.size W (W.alloc (.cells #[.pointer (some ⟨b,0,none⟩),.func (.func f) #[] #[]] 201)).drew:=(bwA).drew
 have HB1:Hid (Below W.heap.size W (W.alloc (.cells #[.pointer (some ⟨b,0,none⟩),.func (.func f) #[] #[]] 201)).drew):=hB1
 have HX1:Hid ((W.alloc (.cells #[.pointer (some ⟨b,0,none⟩),.func (.func f) #[] #[]] 201)).drew.heap[W.heap.size]? = some (.cells #[.pointer (some ⟨b,0,none⟩),.func (.func f) #[] #[]] 201)):=qab W _
 clear h hB1
 go_enter_defers func325,ntmps325
 go_wp2_with fail
 refine wp_region_held (S:=fun V=>V.heap[W.heap.size]? = some (.cells #[.pointer (some ⟨b,0,none⟩),.func (.func f) #[] #[]] 201)) (by kernel_rfl) ?_
 have hS:=HX1.out
 refine wpAnyH_take (i:=0) (v:=.pointer (some ⟨W.heap.size,1,none⟩)) rfl (by kernel_rfl) (by kernel_rfl) (by kernel_rfl) (fun c a w h=>qbr results325 5 (by decide) _ c a w h) (.inl ⟨rfl,fun V hV=>rfl⟩) hS ?_
 refine wpAnyH_take (i:=1) (v:=.func (.func f) #[] #[]) rfl (by kernel_rfl) (by kernel_rfl) (by kernel_rfl) (fun c a w h=>qbr results325 6 (by decide) _ c a w h) (.inl ⟨rfl,fun V hV => ?y1⟩) hS ?_
 case y1=>(have h2:=qaa hV 1;go_simp)
 refine wpAnyH_take (i:=2) (v:=.pointer (some ⟨W.heap.size,0,none⟩)) rfl (by kernel_rfl) (by kernel_rfl) (by kernel_rfl) (fun c a w h=>qbr results325 7 (by decide) _ c a w h) (.inl ⟨rfl,fun V hV=>rfl⟩) hS ?_
 refine wpAnyH_take (i:=3) (v:=.pointer (some ⟨b,0,none⟩)) rfl (by kernel_rfl) (by kernel_rfl) (by kernel_rfl) (fun c a w h=>qbr results325 8 (by decide) _ c a w h) (.inl ⟨rfl,fun V hV => ?y3⟩) hS ?_
 case y3=>(have h2:=qaa hV 0;go_simp)
 refine qmT 4 6 rfl rfl (by kernel_rfl) (fun K hK => ?_) (fun K hK => ?_)
 ·go_simp
  refine(cT _ (HH.out.below HB1.out)).mono ?_
  rintro e w2 ⟨hF,hB2⟩
  obtain rfl:=hF
  exact⟨(But.of_below HB1.out).trans (But.of_below hB2),rfl,_,(HH.out.below HB1.out).below hB2⟩
 ·go_simp
  have hX3:((W.alloc (.cells #[.pointer (some ⟨b,0,none⟩),.func (.func f) #[] #[]] 201)).drew.alloc (.cells #[.int .i64 0,.int .i64 0,.int .u64 0] 273)).heap[W.heap.size]? = _:=(Below.heap_alloc _ _ _ (ltA hS)).trans hS
  have hBa:Below W.heap.size W ((W.alloc (.cells #[.pointer (some ⟨b,0,none⟩),.func (.func f) #[] #[]] 201)).drew.alloc (.cells #[.int .i64 0,.int .i64 0,.int .u64 0] 273)):=HB1.out.alloc HB1.out.size _
  refine hK.out _ _ hX3 (fun _ => ?_)
  clear hK
  refine rdH 4 rfl (by kernel_rfl) (fun K hK => ?_)
  go_simp
  refine(cT _ (HH.out.below hBa)).mono ?_
  rintro e w2 ⟨hF,hB2⟩
  obtain rfl:=hF
  exact⟨(But.of_below hBa).trans (But.of_below hB2),rfl,_,(HH.out.below hBa).below hB2⟩
end
end Go.Proofs.YtllcbnfmihfaaaaGreatDoor
