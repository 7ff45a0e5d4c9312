import Derived.Test.YtllcbnfmihfaaaaGreatDoorCq11
set_option maxRecDepth 100000
set_option maxHeartbeats 8000000
namespace Go.Proofs.YtllcbnfmihfaaaaGreatDoor
open Go.Proofs.Tryz
variable {V V' W:World}{b p:Nat}{fv v:Value}{acc:List UInt8}{s:Src}{F G:Nat→Prop}
section
open Go.RowKit
def qhb (bs:List UInt8)(lim:Int):Nat→Nat→List UInt8→Except (Int×Int) (List UInt8×Nat)
 |0,p,acc=>.ok (acc,p)
 |k+1,p,acc=>match bs[p]? with
  |none=>.error (9,p)
  |some c=>if (p:Int)=lim then .error (8,p) else qhb bs lim k (p+1) (acc++[c])
def qhz {α:Type}(W:World)(b:Nat)(s:Src)(val:World→Value→α→Prop)(r:Except (Int×Int) (α×Nat))(e:Ending)(W':World):Prop :=
 But b W W'∧match r with
 |.ok (x,p)=>(∃v,e=.returned v∧val W' v x)∧qad W' b {s with pos:=p}
 |.error (en,pl)=>qao en pl e∧∃p,qad W' b {s with pos:=p}
structure qrK (W:World)(b:Nat)(fv:Value)(s:Src)(p:Nat)(v:Value)(acc:List UInt8)(V:World):Prop where
 src:qad V b {s with pos:=p}
 but:But b W V
 box:V.heap[W.heap.size]? = some (.cells #[.pointer (some ⟨b,0,none⟩),fv] 201)
 own:Own V (W.heap.size+1) v acc
theorem quv {W':World}{base:Nat}{bs:List UInt8}(h:Own W base v bs)(hB:But b W W')(hn:b<base):Own W' base v bs:=by
 obtain⟨⟨h1,h2⟩,h3,h4⟩:=h;refine⟨⟨h1,?_⟩,Nat.le_trans h3 hB.size,h4⟩;rcases h2 with h2|⟨g,cap,cur,e,hb,hg,h5⟩
 ·exact .inl h2
 exact .inr ⟨g,cap,cur,e,hb,(hB.block g (ltA hg) (by omega)).trans hg,h5⟩
theorem qrK.take {q:Nat}(h:qrK W b fv s p v acc V)(hb:b<W.heap.size)(hs:qad V' b {s with pos:=q})(hB:But b V V'):qrK W b fv s q v acc V' :=
 ⟨hs,h.but.trans hB,(hB.block _ (ltA h.box) (by omega)).trans h.box,quv h.own hB (by omega)⟩
theorem qrK.grow {v':Value}{acc':List UInt8}(h:qrK W b fv s p v acc V)(h0:qad W b s)(hB:Below (W.heap.size+1) V V')(ho:Own V' (W.heap.size+1) v' acc'):qrK W b fv s p v' acc' V' :=
 ⟨h0.same rfl rfl h.src (fun k hk=>hB.block k (by omega)),⟨hB.os.trans h.but.os,hB.tape.trans h.but.tape,hB.output.trans h.but.output,Nat.le_trans h.but.size hB.size,fun k hk hn=>(hB.block k (by omega)).trans (h.but.block k hk hn)⟩,(hB.block _ (by omega)).trans h.box,ho⟩
theorem qtP (fv:Value)(h:qad W b s):qrK W b fv s s.pos (.slice none 0 0) [] (W.alloc (.cells #[.pointer (some ⟨b,0,none⟩),fv] 201)):=by
 have hB:Below W.heap.size W (W.alloc (.cells #[.pointer (some ⟨b,0,none⟩),fv] 201)):=bwA;refine⟨h.below hB,But.of_below hB,qac W _,World.ownsRow_nil _ _ _ _,?_,none,0,0,rfl⟩;simp
theorem qiw (W:World)(b:Nat)(s:Src)(f n:Nat)(hn:n<18446744073709551616)(h:qad W b s)(hlen:s.bs.length≤200000000):Calls prog 328 #[.agg #[.pointer (some ⟨b,0,none⟩),.func (.func f) #[] #[]],.int .u64 n] W (qhz W b s (fun V v l=>Own V (W.heap.size+1) v l) (qhb s.bs s.lim n s.pos [])):=by
 obtain⟨i0,hi,hz0,hz1,hz2⟩:=info_parts Tryz.infoU8;have HX0:Hid (qrK W b (.func (.func f) #[] #[]) s s.pos (.slice none 0 0) [] (W.alloc (.cells #[.pointer (some ⟨b,0,none⟩),.func (.func f) #[] #[]] 201))):=qtP _ h;have HS0:=qaa h;have hbN:=ltA h.row;have hle:=h.le;obtain⟨R,HR⟩:∃R,Hid (qhb s.bs s.lim n s.pos []=R):=⟨_,show _=_ from rfl⟩
 rw[HR.out];clear h;go_enter func328,ntmps328;go_wp2;generalize W.alloc (.cells #[.pointer (some ⟨b,0,none⟩),.func (.func f) #[] #[]] 201)=W0 at *
 go_loopg [5,7] n (fun g y z wr=>∃(k p:Nat) (a:Option Addr) (m c:Nat) (acc:List UInt8),y=.slice a m c∧z=.int .u64 k∧Hid (k+g=n)∧Hid (p≤s.bs.length)∧Hid (acc.length≤p)∧Hid (qrK W b (.func (.func f) #[] #[]) s p (.slice a m c) acc wr)∧Hid (qhb s.bs s.lim g p acc=R))
 case atStart=>exact⟨0,s.pos,none,0,0,[],rfl,rfl,by show _=_;omega,hle,by show 0≤_;omega,HX0,HR⟩
 case round =>
  clear HX0 HR;obtain⟨k,p,a,m,c0,acc,rfl,rfl,hg,hp,ha,HX,HR⟩:=hrel;have kb:=qab HX.out.box 0
  cases gk with
  |zero =>
   have hk:k=n:=by have:=hg.out;omega
   subst hk;have HE:Hid (R=.ok (acc,p)):=HR.out.symm;clear HR hg;go_wp2;go_ret;rw[HE.out];exact⟨HX.out.but,⟨_,rfl,HX.out.own⟩,HX.out.src⟩
  |succ g =>
   have hkn:k<n:=by have:=hg.out;omega
   have e1:decide ((k:Int)<(n:Int))=true:=by simp;omega
   have e2:decide (k<n)=true:=by simp;omega
   rcases qaM HX.out.src with h1|h1|⟨c,h1⟩
   ·have HE:Hid (R=.error (9,(p:Int))):=by
     show _=_;rw[←HR.out,qhb,List.getElem?_eq_none (by have:p=s.bs.length:=h1;omega)]
    have cT:=qbm _ b {s with pos:=p} HX.out.src h1;clear HR h1
    go_wp2_with (first
     |(go_at_call 294;refine cT.mono ?_;clear cT;rintro e w2 ⟨hF,hB⟩;obtain rfl:=hF))
    rw[HE.out];exact⟨rfl,HX.out.but.trans (But.of_below hB),rfl,_,HX.out.src.below hB⟩
   ·have HE:Hid (R=.error (8,(p:Int))):=by
     show _=_;have h2:(p:Int)=s.lim:=h1.2;have h3:p<s.bs.length:=h1.1;rw[←HR.out,qhb,List.getElem?_eq_getElem h3];simp only[];rw[if_pos h2]
    have cT:=qaP _ b {s with pos:=p} HX.out.src h1;clear HR h1
    go_wp2_with (first
     |(go_at_call 294;refine cT.mono ?_;rintro e w2 ⟨hF,hB⟩;obtain rfl:=hF))
    rw[HE.out];exact⟨rfl,HX.out.but.trans (But.of_below hB),rfl,_,HX.out.src.below hB⟩
   have hc1:s.bs[p]? = some c:=h1.1;have hc2:¬(p:Int)=s.lim:=h1.2;have HPL:Hid (p<s.bs.length):=h1.lt;have hr:=HR.out;rw[qhb,hc1] at hr;simp only[] at hr;rw[if_neg hc2] at hr;have HN:=qaa hr;have cT:Calls prog 294 #[.pointer (some ⟨b,0,none⟩)] wr fun e W'=>e=.returned (.int .u8 c.toNat)∧qad W' b {s with pos:=p+1}∧But b wr W':=qau _ b {s with pos:=p} c HX.out.src h1;have hal:acc.length≤999999999:=by have:=ha.out;have:=hp.out;omega
   go_wp2_with (first
    |(go_at_call 294;refine cT.mono ?_;rintro e w2 ⟨rfl,hS,hB⟩;have HX2:=qaa (HX.out.take hbN hS hB);have HO:=qaa HX2.out.own.1;have HBS:=qaa HX2.out.own.2.1)
    |(at_builtin;refine wpList_append_own _ rfl _ _ 202 rfl (W.heap.size+1) 5 i0 (.int .u8 0) 1 1 underlying202 hi hz0 hz1 hz2 rfl (by decide) _ _ _ rfl (HO.out.alloc _) ⟨w2.heap.size,0,none⟩ 1 1 [.int .u8 c.toNat] rfl rfl (qag _ _ _) (fun u hu=>by simp at hu;subst hu;rfl) (by unfold maxLen;omega) (by omega) (by simp;have:=HBS.out;omega) ?_;intro v' w5 hown' hgrow5 hnil5;obtain⟨g5,cap5,rfl⟩:=ownsRow_succ hown';have HB5:=qaa (qaz ((Below.refl _ w2).alloc HBS.out _) (HO.out.alloc _) hgrow5 (by simp;have:=HBS.out;omega));have HX5:=qaa (HX2.out.grow HS0.out HB5.out ⟨qbG hown' rfl,Nat.le_trans HBS.out HB5.out.size,_,_,_,rfl⟩)))
   go_roundg g
   case measure=>omega
   case rel=>exact⟨k+1,p+1,_,_,_,acc++[c],rfl,by go_num,by show _=_;have:=hg.out;omega,HPL,by show _≤_;rw[List.length_append];have:=ha.out;simp;omega,HX5,HN⟩
def qb1 (V:World)(t:TypeId)(size:Nat)(F:Nat→Prop)(v:Value)(n:Nat)(xs:List Value):Prop :=
 xs.length=n*size∧((v=.slice none 0 0∧n=0)∨∃g cap cur,v=.slice (some ⟨g,0,none⟩) n cap∧F g∧V.heap[g]? = some (.cells cur t (0,0))∧n≤cap∧cap≤maxLen∧cur.size=cap*size∧cur.toList.take (n*size)=xs)
def qai:Nat→World→(Nat→Prop)→Value→DataW Unit→Prop
 |0,_,_,_,_=>False
 |k+1,V,F,v,d=>match d with
  |.nil=>v=.iface 247 (.agg #[])
  |.lit (.bool b)=>v=.iface 277 (.bool b)
  |.lit (.int .i64 z)=>v=.iface 279 (.int .i64 z) ∧ -9223372036854775808≤z∧z≤9223372036854775807
  |.lit (.string l)=>v=.iface 281 (.string ⟨l.toArray⟩)
  |.ptr (.lit (.string l))=>∃u,v=.iface 202 u∧qb1 V 5 1 F u l.length (l.map qav)
  |.agg ds=>∃u xs,v=.iface 204 u∧qb1 V 81 1 F u ds.length xs∧∀(i:Nat) (x:Value) (d:DataW Unit),xs[i]? = some x→ds[i]? = some d→qai k V F x d
  |.map es=>∃u xs,v=.iface 206 u∧qb1 V 208 2 F u es.length xs∧∀(i:Nat) (key:Lit) (d:DataW Unit),es[i]? = some (key,d)→∃l x,key=.string l∧xs[2*i]? = some (.string ⟨l.toArray⟩)∧xs[2*i+1]? = some x∧qai k V F x d
  |_=>False
theorem qb1.same {t:TypeId}{size n:Nat}{xs:List Value}(h:qb1 V t size F v n xs)(hFG:∀k,F k→G k)(hk:∀k,F k→V'.heap[k]? = V.heap[k]?):qb1 V' t size G v n xs:=by
 obtain⟨h1,h2⟩:=h;refine⟨h1,?_⟩;rcases h2 with h2|⟨g,cap,cur,e,hf,hg,h3⟩
 ·exact .inl h2
 exact .inr ⟨g,cap,cur,e,hFG g hf,(hk g hf).trans hg,h3⟩
theorem qai.same (hFG:∀k,F k→G k)(hk:∀k,F k→V'.heap[k]? = V.heap[k]?):∀{k:Nat} {v:Value} {d:DataW Unit},qai k V F v d→qai k V' G v d
 |0,_,_,h=>h
 |k+1,v,d,h=>by
  unfold qai at h ⊢;split at h
  ·exact h
  ·exact h
  ·exact h
  ·exact h
  ·obtain⟨u,e,hr⟩:=h;exact⟨u,e,hr.same hFG hk⟩
  ·obtain⟨u,xs,e,hr,ha⟩:=h;exact⟨u,xs,e,hr.same hFG hk,fun i x d h1 h2=>qai.same hFG hk (ha i x d h1 h2)⟩
  ·obtain⟨u,xs,e,hr,ha⟩:=h;refine⟨u,xs,e,hr.same hFG hk,fun i key d h1 => ?_⟩;obtain⟨l,x,e1,e2,e3,e4⟩:=ha i key d h1;exact⟨l,x,e1,e2,e3,qai.same hFG hk e4⟩
  exact h
theorem qai.more:∀{k m:Nat} {v:Value} {d:DataW Unit},k≤m→qai k V F v d→qai m V F v d
 |0,_,_,_,_,h=>h.elim
 |k+1,0,_,_,hm,_=>absurd hm (by omega)
 |k+1,m+1,v,d,hm,h=>by
  unfold qai at h ⊢;split at h
  ·exact h
  ·exact h
  ·exact h
  ·exact h
  ·exact h
  ·obtain⟨u,xs,e,hr,ha⟩:=h;exact⟨u,xs,e,hr,fun i x d h1 h2=>qai.more (by omega) (ha i x d h1 h2)⟩
  ·obtain⟨u,xs,e,hr,ha⟩:=h;refine⟨u,xs,e,hr,fun i key d h1 => ?_⟩;obtain⟨l,x,e1,e2,e3,e4⟩:=ha i key d h1;exact⟨l,x,e1,e2,e3,qai.more (by omega) e4⟩
  exact h
theorem qe2 (k n:Nat)(h:qad W b s):qad ((W.drewN n).setCell ⟨b,4,none⟩ (.int .i64 k)) b {s with within:=k}∧But b W ((W.drewN n).setCell ⟨b,4,none⟩ (.int .i64 k)):=by
 have hr:(W.drewN n).heap[b]? = some (.cells s.arr 196):=h.row;have hk:∀q,q≠b→((W.drewN n).setCell ⟨b,4,none⟩ (.int .i64 k)).heap[q]? = W.heap[q]?:=fun q hq=>heap_setCell_other (W.drewN n) _ _ _ (by simpa using hq);refine⟨⟨?_,fun i hi => ?_,h.len,h.le⟩,⟨rfl,rfl,rfl,by simp[World.setCell,World.drewN],fun q _ hq=>hk q hq⟩⟩
 ·rw[setCell_eq_setRow _ b 4 _ _ _ _ hr,setRow_heap _ _ _ _ _ _ hr];rfl
 obtain⟨g,off,e1,e2,e3⟩:=h.inp i hi;exact⟨g,off,e1,e2,(World.cell?_of_block (w:=W) (hk g e2)).trans e3⟩
theorem qin (W:World)(b:Nat)(s:Src)(h:qad W b s)(hd:¬(s.within:Int)=s.depth)(hw:s.within≤1000000):Calls prog 289 #[.pointer (some ⟨b,0,none⟩)] W fun e W'=>e=.returned (.tuple #[])∧qad W' b {s with within:=s.within+1}∧But b W W':=by
 have k1:W.cell? ⟨b,1,none⟩=some (.int .i64 s.depth):=qab h.row 1;have k4:W.cell? ⟨b,4,none⟩=some (.int .i64 s.within):=qab h.row 4;have f4:=frozen_of_row W b 4 _ _ h.row;have HN:Hid (∀n,qad ((W.drewN n).setCell ⟨b,4,none⟩ (.int .i64 ((s.within:Int)+1))) b {s with within:=s.within+1}∧But b W ((W.drewN n).setCell ⟨b,4,none⟩ (.int .i64 ((s.within:Int)+1)))):=fun n=>qe2 (s.within+1) n h;have e1:((s.within:Int)==s.depth)=false:=by simpa using hd
 go_enter func289,ntmps289;go_wp2
 go_quiet (fail)
 go_wp2;go_end0;exact⟨rfl,(HN.out nq).1,(HN.out nq).2⟩
theorem qjb (W:World)(b:Nat)(s:Src)(h:qad W b s)(hd:(s.within:Int)=s.depth):Calls prog 289 #[.pointer (some ⟨b,0,none⟩)] W fun e W'=>qao 11 ((s.pos:Int)-1) e∧But b W W'∧∃p,qad W' b {s with pos:=p}:=by
 have k1:W.cell? ⟨b,1,none⟩=some (.int .i64 s.depth):=qab h.row 1;have k4:W.cell? ⟨b,4,none⟩=some (.int .i64 s.within):=qab h.row 4;have e1:((s.within:Int)==s.depth)=true:=by simpa using hd
 have cR:=fun n=>qat (W.drewN n) b s 11 (h.drewN n);have HH:=qaa h;go_enter func289,ntmps289;go_wp2
 go_quiet (fail)
 go_wp2_with (first
  |(go_at_call 295;refine(cR nq).mono ?_;rintro e w7 ⟨hF,rfl⟩;obtain rfl:=hF))
 exact⟨rfl,rfl,But.of_below (qam W nq),_,HH.out.drewN nq⟩
theorem qj2 (W:World)(b k:Nat)(s:Src)(h:qad W b s)(hk:s.within=k+1)(hw:s.within≤1000000):Calls prog 317 #[.pointer (some ⟨b,0,none⟩)] W fun e W'=>e=.returned (.tuple #[])∧qad W' b {s with within:=k}∧But b W W':=by
 have k4:W.cell? ⟨b,4,none⟩=some (.int .i64 ((k:Int)+1)):=by
  have:=qab h.row 4;rw[this];show some (Value.int .i64 (s.within:Int))=_;rw[hk];rfl
 have f4:=frozen_of_row W b 4 _ _ h.row;have HN:Hid (qad (W.setCell ⟨b,4,none⟩ (.int .i64 k)) b {s with within:=k}∧But b W (W.setCell ⟨b,4,none⟩ (.int .i64 k))):=qe2 k 0 h;have hk2:k≤1000000:=by omega
 go_enter func317,ntmps317;go_wp2;go_end0;exact⟨rfl,HN.out.1,HN.out.2⟩
end
end Go.Proofs.YtllcbnfmihfaaaaGreatDoor
