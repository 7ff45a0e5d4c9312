import Derived.Test.YtllcbnfmihfaaaaGreatDoorCq24
set_option maxRecDepth 100000
set_option maxHeartbeats 8000000
namespace Go.Proofs.YtllcbnfmihfaaaaGreatDoor
open Go.Proofs.Tryz
variable {V W W' w:World}{lo n:Nat}{pre:List Str}{v:Value}{xs ys:List Value}{rs:List (List (Nat×List UInt8)×Int×Int)}
section
open Go.RowKit Go.Shelf
section
attribute [local go_sem] Oper.semAt_some
structure PdI (w:World)(n:Nat)(pre:List Str)(W:World):Prop where
 below:Below w.heap.size w W
 lab:Boxed W w.heap.size 3 (.int .i64 n)
 r0:Boxed W (w.heap.size+1) 108 (.slice none 0 0)
 r1:Boxed W (w.heap.size+2) 31 (.int .i64 0)
 r2:Boxed W (w.heap.size+3) 3 (.int .i64 0)
 rules:∃ao cap xs,Boxed W (w.heap.size+4) 108 (.slice ao pre.length cap)∧W.ownsRow (w.heap.size+8) 230 3 (.slice ao pre.length cap) pre.length xs∧Hid (RwB W (w.heap.size+8) 235 xs (pre.map fun x=>enP (enS (qdE (lst x)))))
 le:pre.length≤16
 all:(pre.map lst).all (qa9 n)=true
 size:w.heap.size+8≤W.heap.size
theorem PdI.own {row:Nat}(h:PdI w n pre W)(hg:W.grownBy W' (some row))(h1:row=w.heap.size+5∨(w.heap.size+8≤row∧∃o,W.heap[row]? = some o∧o.isCells=false)):PdI w n pre W':=by
 obtain⟨ao,cap,xs,hp,ho,hxs⟩:=h.rules;refine⟨h.below.trans ⟨hg.os,hg.tape,hg.output,hg.size,fun i hi=>hg.block i (by have:=h.size;omega) (by intro e;injection e with e;omega)⟩,h.lab.kept hg (by intro e;injection e with e;omega),h.r0.kept hg (by intro e;injection e with e;omega),h.r1.kept hg (by intro e;injection e with e;omega),h.r2.kept hg (by intro e;injection e with e;omega),⟨ao,cap,xs,hp.kept hg (by intro e;injection e with e;omega),ho.kept hg ?_,?hx⟩,h.le,h.all,Nat.le_trans h.size hg.size⟩
 case hx =>
  refine hxs.out.kept fun b cur fr h2 h3=>⟨h2,(hg.block b (ltA h3) ?_).trans h3⟩
  intro e;injection e with e;subst e;rcases h1 with h1|⟨_,o,ho',hc⟩
  ·omega
  rw[h3] at ho';cases ho';cases hc
 rcases ho.2 with ⟨h0,_⟩|⟨g',cap',cur,h0,hb',hh,_⟩
 ·left;rw[h0];rfl
 right;rw[h0];intro e;cases e;rcases h1 with h1|⟨_,o,ho',hc⟩
 ·have h1':g'=w.heap.size+5:=h1;omega
 rw[hh] at ho';cases ho';cases hc
theorem PdI.out (x:Str)(h:PdI w n pre W)(hx:¬(qa9 n (lst x)=true∧pre.length<16)):RdX w n (pre++[x]) .ret (((W.setCell ⟨w.heap.size+1,0,none⟩ (.slice none 0 0)).setCell ⟨w.heap.size+1+1,0,none⟩ (.int .i64 6)).setCell ⟨w.heap.size+1+1+1,0,none⟩ (.int .i64 (pre.length:Nat))) ∧
  Tr w.heap.size (w.heap.size+5) W (((W.setCell ⟨w.heap.size+1,0,none⟩ (.slice none 0 0)).setCell ⟨w.heap.size+1+1,0,none⟩ (.int .i64 6)).setCell ⟨w.heap.size+1+1+1,0,none⟩ (.int .i64 (pre.length:Nat))):=by
 have t1:=Tr.set w.heap.size (w.heap.size+5) W (w.heap.size+1) (.slice none 0 0) (by omega) (by omega);have t2:=Tr.set w.heap.size (w.heap.size+5) (W.setCell ⟨w.heap.size+1,0,none⟩ (.slice none 0 0)) (w.heap.size+1+1) (.int .i64 6) (by omega) (by omega);have t3:=Tr.set w.heap.size (w.heap.size+5) ((W.setCell ⟨w.heap.size+1,0,none⟩ (.slice none 0 0)).setCell ⟨w.heap.size+1+1,0,none⟩ (.int .i64 6)) (w.heap.size+1+1+1) (.int .i64 (pre.length:Nat)) (by omega) (by omega);have g1:=grownBy_setCell' W (w.heap.size+1) (.slice none 0 0);have g2:=grownBy_setCell' (W.setCell ⟨w.heap.size+1,0,none⟩ (.slice none 0 0)) (w.heap.size+1+1) (.int .i64 6);have g3:=grownBy_setCell' ((W.setCell ⟨w.heap.size+1,0,none⟩ (.slice none 0 0)).setCell ⟨w.heap.size+1+1,0,none⟩ (.int .i64 6)) (w.heap.size+1+1+1) (.int .i64 (pre.length:Nat));refine⟨⟨rfl,h.below.trans ((t1.trans t2).trans t3).below,?_,?_,⟨pre,x,rfl,?_,h.all,h.le,hx⟩,?_⟩,(t1.trans t2).trans t3⟩
 ·exact((h.r0.set _).kept g2 (by intro e;injection e with e;omega)).kept g3 (by intro e;injection e with e;omega)
 ·exact(Boxed.set _ (h.r1.kept g1 (by intro e;injection e with e;omega))).kept g3 (by intro e;injection e with e;omega)
 ·exact Boxed.set _ ((h.r2.kept g1 (by intro e;injection e with e;omega)).kept g2 (by intro e;injection e with e;omega))
 simp[World.setCell];exact h.size
theorem PdI.alloc (h:PdI w n pre W)(o:Obj):PdI w n pre (W.alloc o):=h.own (World.grownBy_alloc W o (some (w.heap.size+5))) (.inl rfl)
theorem PdI.belowS (h:PdI w n pre W)(hb:Below W.heap.size W W'):PdI w n pre W' :=
 h.own (row:=w.heap.size+5) ⟨hb.os,hb.tape,hb.output,hb.size,fun i hi _=>hb.block i hi⟩ (.inl rfl)
theorem qw6 {w5:World}{x:Str}{v':Value}(h:PdI w n pre V)(ht:Tr w.heap.size (w.heap.size+5) W V)(hp:Boxed V (w.heap.size+4) 108 v)(ho:V.ownsRow (w.heap.size+8) 230 3 v pre.length xs)(ho':w5.ownsRow (w.heap.size+8) 230 3 v' (pre.length+1) ys)(hg:V.grownBy w5 v.ownBlock)(h16:¬(pre.length:Int)=16)(hs:qa9 n (lst x)=true){pa:Option Addr}{pc:Nat}(hxs:Hid (RwB V (w.heap.size+8) 235 xs (pre.map fun x=>enP (enS (qdE (lst x))))))(hc:qkk V (w.heap.size+8) 235 pa (((qdE (lst x)).1.map sgS).flatMap sgC))(hys:ys=xs++[.slice pa (qdE (lst x)).1.length pc,.int .i64 (qdE (lst x)).2.1,.int .i64 (qdE (lst x)).2.2]):KeepsOthers W (w5.setCell ⟨w.heap.size+1+1+1+1,0,none⟩ v')∧qc0 (w.heap.size+5) (w.heap.size+5+3) W (w5.setCell ⟨w.heap.size+1+1+1+1,0,none⟩ v')∧PdI w n (pre++[x]) (w5.setCell ⟨w.heap.size+1+1+1+1,0,none⟩ v'):=by
 have key:=fun g h=>qbp ho (g:=g) h;have t1:Tr w.heap.size (w.heap.size+5) V w5:=Tr.grown ho hg h.size (by omega) (by omega);have t2:=Tr.set w.heap.size (w.heap.size+5) w5 (w.heap.size+4) v' (by omega) (by omega);have g2:=grownBy_setCell' w5 (w.heap.size+4) v';have hp5:=hp.kept hg (fun e=>by have:=key _ e.symm;omega);obtain⟨g,cap,rfl⟩:=ownsRow_succ ho';refine⟨(ht.trans (t1.trans t2)).keep,(ht.trans (t1.trans t2)).mid,⟨h.below.trans (t1.trans t2).below,?_,?_,?_,?_,⟨some ⟨g,0,none⟩,cap,ys,?_,?_,?hy⟩,?_,?_,?_⟩⟩
 case hy =>
  have e1:(pre++[x]).map (fun x=>enP (enS (qdE (lst x))))=(pre.map fun x=>enP (enS (qdE (lst x))))++[enP (enS (qdE (lst x)))]:=by rw[List.map_append];rfl
  show RwB _ _ _ _ _;rw[hys,e1];have h1:=RwB.push (pa:=pa) (pc:=pc) hxs.out (e:=enP (enS (qdE (lst x)))) hc;have e2:(enP (enS (qdE (lst x)))).2.1=(qdE (lst x)).1.length:=List.length_map _;rw[e2] at h1;refine h1.kept fun b cur fr h2 h3=>⟨h2,?_⟩
  have hb:=ltA h3;have k1:w5.heap[b]? = some (.cells cur 235 fr):=by
   refine(hg.block b hb (fun e => ?_)).trans h3;rcases ho.2 with ⟨h0,_⟩|⟨g',cap',cur',h0,hb',hh,_⟩
   ·rw[h0] at e;cases e
   rw[h0] at e;injection e with e;have e':b=g':=e;rw[←e',h3] at hh;injection hh with hh;injection hh with _ hh _;revert hh;decide
  exact(Below.heap_setCell _ _ _ _ (by simp;omega)).trans k1
 ·exact(h.lab.kept hg (fun e=>by have:=key _ e.symm;omega)).kept g2 (by intro e;injection e with e;omega)
 ·exact(h.r0.kept hg (fun e=>by have:=key _ e.symm;omega)).kept g2 (by intro e;injection e with e;omega)
 ·exact(h.r1.kept hg (fun e=>by have:=key _ e.symm;omega)).kept g2 (by intro e;injection e with e;omega)
 ·exact(h.r2.kept hg (fun e=>by have:=key _ e.symm;omega)).kept g2 (by intro e;injection e with e;omega)
 ·rw[List.length_append];exact hp5.set _
 ·rw[List.length_append];refine ho'.kept g2 (.inr (fun e => ?_));have:=qbp ho' e;omega
 ·have:=h.le;rw[List.length_append];simp;omega
 ·rw[List.map_append,List.all_append,h.all];simp[hs]
 exact Nat.le_trans h.size (t1.trans t2).below.size
theorem PdI.drew (h:PdI w n pre W):PdI w n pre W.drew:=h.belowS (Below.refl _ _).drew
theorem qsX (w:World)(n:Nat)(s:ByteArray)(W0:World)(hW0:((((((((w.alloc (.cells #[.int .i64 n] 3)).alloc (.cells #[.slice none 0 0] 108)).alloc (.cells #[.int .i64 0] 31)).alloc (.cells #[.int .i64 0] 3)).alloc (.cells #[.slice none 0 0] 108)).alloc (.cells #[.string s] 9)).alloc (.cells #[.string ⟨#[10]⟩] 9)).alloc (.cells #[.int .i64 0] 3))=W0):PdI w n [] W0:=by
 subst hW0;refine⟨?_,?_,?_,?_,?_,⟨none,0,[],?_,World.ownsRow_nil _ _ _ _,qnO _ _ _⟩,Nat.zero_le _,rfl,by simp⟩
 ·exact(((((((bwA).alloc (by simp) _).alloc (by simp;omega) _).alloc (by simp;omega) _).alloc (by simp;omega) _).alloc (by simp;omega) _).alloc (by simp;omega) _).alloc (by simp;omega) _
 ·exact(((((((Boxed.new w _ _).alloc _).alloc _).alloc _).alloc _).alloc _).alloc _).alloc _
 ·have:=Boxed.new (w.alloc (.cells #[.int .i64 n] 3)) 108 (.slice none 0 0);rw[World.size_alloc] at this;exact(((((this.alloc _).alloc _).alloc _).alloc _).alloc _).alloc _
 ·have:=Boxed.new ((w.alloc (.cells #[.int .i64 n] 3)).alloc (.cells #[.slice none 0 0] 108)) 31 (.int .i64 0);rw[World.size_alloc,World.size_alloc] at this;exact((((this.alloc _).alloc _).alloc _).alloc _).alloc _
 ·have:=Boxed.new (((w.alloc (.cells #[.int .i64 n] 3)).alloc (.cells #[.slice none 0 0] 108)).alloc (.cells #[.int .i64 0] 31)) 3 (.int .i64 0);rw[World.size_alloc,World.size_alloc,World.size_alloc] at this;exact(((this.alloc _).alloc _).alloc _).alloc _
 have:=Boxed.new ((((w.alloc (.cells #[.int .i64 n] 3)).alloc (.cells #[.slice none 0 0] 108)).alloc (.cells #[.int .i64 0] 31)).alloc (.cells #[.int .i64 0] 3)) 108 (.slice none 0 0);rw[World.size_alloc,World.size_alloc,World.size_alloc,World.size_alloc] at this;exact((this.alloc _).alloc _).alloc _
def PrB (W:World)(lo:Nat)(v:Value)(rs:List (List (Nat×List UInt8)×Int×Int)):Prop:=∃xs,W.ownsRow lo 230 3 v rs.length xs∧RwB W lo 235 xs (rs.map enP)
theorem PrB.kept (h:PrB W lo v rs)(hk:∀b,lo≤b→b<W.heap.size→W'.heap[b]? = W.heap[b]?):PrB W' lo v rs:=by
 obtain⟨xs,h1,h2⟩:=h;refine⟨xs,⟨h1.1,?_⟩,h2.kept fun b cur fr k1 k3=>⟨k1,(hk b k1 (ltA k3)).trans k3⟩⟩;rcases h1.2 with h0|⟨g',cp,cur,h0,h1,hh,h2⟩
 ·exact .inl h0
 exact .inr ⟨g',cp,cur,h0,h1,(hk g' h1 (ltA hh)).trans hh,h2⟩
theorem PrB.pru (h:PrB W lo v rs):∃a cap,v=.slice a rs.length cap∧qdW W a rs:=by
 obtain⟨xs,h1,h2⟩:=h;exact qth h1 h2
theorem quC {base:Nat}{e:TypeId}{size:Nat}(h:W.ownsRow base e size v n xs)(hl:lo≤base):W.ownsRow lo e size v n xs:=by
 refine⟨h.1,?_⟩;rcases h.2 with h0|⟨g',cp,cur,h0,h1,hh,h2⟩
 ·exact .inl h0
 exact .inr ⟨g',cp,cur,h0,by omega,hh,h2⟩
def qwq (n:Nat)(s:ByteArray)(w:World)(e:Ending)(w':World):Prop :=
 ∃a m cap,e=.returned (.tuple #[.slice a m cap,.int .i64 (qez n s.data.toList),.int .i64 (qka n s.data.toList)])∧Below w.heap.size w w'∧(qez n s.data.toList=0→PrB w' w.heap.size (.slice a m cap) ((qcA s.data.toList).map enS))
theorem qtl {s:ByteArray}{hs:s.size≤2000}{xs:List Str}{ao:Option Addr}{cap D:Nat}(hne:¬s.size=0)(h:xs.map lst=qal 10 (lst ⟨s,hs⟩))(ho:W.ownsRow (w.heap.size+8) 230 3 (.slice ao xs.length cap) xs.length ys)(hy:RwB W (w.heap.size+8) 235 ys (xs.map fun x=>enP (enS (qdE (lst x)))))(hK:W.heap[D]? = some (.deferred (some [])))(hV:∀j,w.heap.size+8≤j→V.heap[j]? = W.heap[j]?):PrB (V.putObj D (.deferred none)) w.heap.size (.slice ao xs.length cap) ((qcA s.data.toList).map enS):=by
 have hl:s.data.toList.length=s.size:=Array.length_toList;have hp:qcA s.data.toList=(xs.map lst).map qdE:=by
  unfold qcA;rw[if_neg (by omega),h];rfl
 have hk:∀b cur t fr,w.heap.size+8≤b→W.heap[b]? = some (.cells cur t fr)→(V.putObj D (.deferred none)).heap[b]? = some (.cells cur t fr):=by
  intro b cur t fr h1 h3;have hne:b≠D:=by
   rintro rfl;rw[hK] at h3;cases h3
  have h4:=(hV b h1).trans h3;rw[(grownBy_putObj' V D (.deferred none)).block b (ltA h4) (by simpa using hne)];exact h4
 have ho2:(V.putObj D (.deferred none)).ownsRow (w.heap.size+8) 230 3 (.slice ao xs.length cap) ((qcA s.data.toList).map enS).length ys:=by
  have e:((qcA s.data.toList).map enS).length=xs.length:=by rw[hp];simp
  rw[e];refine⟨ho.1,?_⟩;rcases ho.2 with h0|⟨g',cp,cur,h0,h1,hh,h2⟩
  ·exact .inl h0
  exact .inr ⟨g',cp,cur,h0,h1,hk g' cur _ _ h1 hh,h2⟩
 have hr:RwB (V.putObj D (.deferred none)) (w.heap.size+8) 235 ys (((qcA s.data.toList).map enS).map enP):=by
  have e:((qcA s.data.toList).map enS).map enP=xs.map fun x=>enP (enS (qdE (lst x))):=by
   rw[hp,List.map_map,List.map_map,List.map_map];rfl
  rw[e];exact hy.kept fun b cur fr h1 h3=>⟨h1,hk b cur _ fr h1 h3⟩
 exact⟨ys,quC ho2 (by omega),hr.kept fun b cur fr h1 h3=>⟨by omega,h3⟩⟩
theorem qkL (s:ByteArray)(n:Nat)(w:World)(hgl:qlZ w):Calls prog 83 #[.string s,.int .i64 n] w fun e w'=>qwq n s w e w':=by
 have hl:s.data.toList.length=s.size:=Array.length_toList;obtain⟨i0,hi,hz0,hz1,hz2⟩:=info_parts Tryz.infoRule2;have HG:=qaa hgl;clear hgl;by_cases hbig:(2000:Int)<s.size
 ·have hy:qa3 n s.data.toList=0:=by unfold qa3;rw[if_pos (by omega)]
  have HE:Hid (qez n s.data.toList=6):=by show _=_;unfold qez;rw[hy];rfl
  have HN:Hid (qka n s.data.toList=0):=by show _=_;unfold qka;rw[hy];rfl
  clear hy;go_enter func83,ntmps83;go_wp2;have e3:=qfR w n 6;have hb:Below w.heap.size w ((((w.alloc (.cells #[.int .i64 n] 3)).alloc (.cells #[.slice none 0 0] 108)).alloc (.cells #[.int .i64 6] 31)).alloc (.cells #[.int .i64 0] 3)):=((((bwA).alloc (by simp) _).alloc (by simp;omega) _).alloc (by simp;omega) _)
  generalize (((w.alloc (.cells #[.int .i64 n] 3)).alloc (.cells #[.slice none 0 0] 108)).alloc (.cells #[.int .i64 6] 31)).alloc (.cells #[.int .i64 0] 3)=V at *;obtain⟨e0,e1,e2⟩:=e3;refine bodyPost_ret (v:=.tuple #[.slice none 0 0,.int .i64 6,.int .i64 0]) (by simp[results,f83,go_sem,e0,e1,e2]) rfl ?_;exact⟨none,0,0,by rw[HE.out,HN.out],hb,fun e=>by rw[HE.out] at e;cases e⟩
 have hs:s.size≤2000:=by omega
 cases hd:(s.toList==[])
 ·have HNE:Hid (¬s.size=0):=by
   intro h;have:s.data.toList=[]:=List.eq_nil_of_length_eq_zero (by omega);rw[Lib.toList_data,this] at hd;cases hd
  refine(callsIn_wide (n:=10)).1 ?_;refine callsIn_of_wp_marks func83 rfl trivial ?_ rfl;simp only[ntmps83,List.size_toArray,List.length_cons,List.length_nil,Nat.reduceAdd,Nat.reduceSub,Array.replicate_succ,Array.replicate_zero,List.push_toArray,List.append_toArray,List.nil_append,List.cons_append]
  gi_wp2_with fail
  refine⟨trivial,(callsIn_wide.2 (qeR s ⟨#[10]⟩ _)).mono ?_⟩;rintro e w' ⟨rfl,rfl⟩;simp only[World.size_alloc]
  gi_wp2
  obtain⟨W0,hW0⟩:∃W0,((((((((w.alloc (.cells #[.int .i64 n] 3)).alloc (.cells #[.slice none 0 0] 108)).alloc (.cells #[.int .i64 0] 31)).alloc (.cells #[.int .i64 0] 3)).alloc (.cells #[.slice none 0 0] 108)).alloc (.cells #[.string s] 9)).alloc (.cells #[.string ⟨#[10]⟩] 9)).alloc (.cells #[.int .i64 0] 3))=W0:=⟨_,rfl⟩
  have hsz:W0.heap.size=w.heap.size+8:=by rw[←hW0];simp
  have hI0:=qsX w n s W0 hW0;have hA0:=qo3 w n s W0 hW0;rw[hW0];refine qc6 rfl (by omega) (gf:=213) (lb:=#[.pointer (some ⟨w.heap.size+1+1+1+1+1+1,0,none⟩),.pointer (some ⟨w.heap.size+1+1+1+1+1,0,none⟩),.pointer (some ⟨w.heap.size+1+1+1+1+1+1+1,0,none⟩)]) rfl trivial (enters_of func213 (by kernel_rfl) rfl)
   (st:=w.heap.size+5) (by omega) (lo:=w.heap.size+5) (hi:=w.heap.size+5+3) (by omega) (qiV 9 (w.heap.size+5) 10 ⟨s,hs⟩ W0 hA0) bwR (fun x=>rfl)
   (fun pre W=>PdI w n pre W) (fun c pre W=>RdX w n pre c W)
   (fun pre A B h hg=>h.own hg (.inl rfl)) (fun c pre A B h hg=>h.own hg (by omega))
   (fun pre A k o o' h hB hk hc=>h.own (grownBy_putObj' A k o') (.inr ⟨by omega,o,hk,hc⟩)) (fun c pre A k o o' h hB hk hc=>h.own (grownBy_putObj' A k o') (by omega))
   hI0
   (fun x=>{tmps:=#[.string s,.int .i64 n,undef,.pointer (some ⟨w.heap.size,0,none⟩),.pointer (some ⟨w.heap.size+1,0,none⟩),.pointer (some ⟨w.heap.size+1+1,0,none⟩),.pointer (some ⟨w.heap.size+1+1+1,0,none⟩),.pointer (some ⟨w.heap.size+1+1+1+1,0,none⟩),.string x.1,undef,undef,.string s,.int .i64 s.size,.bool false,.string s,.bool false,.string s,.func (.func 213) #[] #[.pointer (some ⟨w.heap.size+1+1+1+1+1+1,0,none⟩),.pointer (some ⟨w.heap.size+1+1+1+1+1,0,none⟩),.pointer (some ⟨w.heap.size+1+1+1+1+1+1+1,0,none⟩)],.string x.1,undef,undef,undef,undef,undef,undef,undef,undef,undef,undef,undef,undef,undef,undef,undef,undef,undef,undef,undef,undef],defers:=[]}) ?assign ?body ?done ?stop
  case assign =>
   intro l x W K hK
   gi_wp2
   exact hK
  case body =>
   clear hI0 hA0 hW0 hsz;intro l pre x W hI hlt;have HI:=qaa hI;have c0:=hI.lab.cell;have cR:=qiQ x.1 n W x.2 (HG.out.below hI.below);clear hI
   gi_wp2_with fail
   refine⟨trivial,((callsIn_wide.2 cR).inRound l).mono ?_⟩;clear cR c0;rintro e w2 ⟨ra,rm,rc,rx,ry,rfl,hB,hC⟩;have HC2:Hid (qa9 n x.1.data.toList=true→rm=(qdE x.1.data.toList).1.length∧rx=(qdE x.1.data.toList).2.1∧ry=(qdE x.1.data.toList).2.2∧qkk w2 (w.heap.size+8) 235 ra (((qdE x.1.data.toList).1.map sgS).flatMap sgC)):=fun e=>⟨(hC e).1,(hC e).2.1,(hC e).2.2.1,(hC e).2.2.2.kept fun b cur fr h1 h3=>⟨by have:=HI.out.size;omega,h3⟩⟩
   clear hC;simp only[qf5];have HI2:=qaa (HI.out.belowS hB);have HT2:Hid (Tr w.heap.size (w.heap.size+5) W w2):=Tr.below' hB (by have:=HI.out.size;omega) (by have:=HI.out.size;omega);clear hB HI;have hz7:=HI2.out.size;have HI3:Hid (PdI w n pre (w2.alloc (.cells #[.slice ra rm rc,.int .i64 rx,.int .i64 ry] 230))):=HI2.out.alloc _;have HT3:Hid (Tr w.heap.size (w.heap.size+5) W (w2.alloc (.cells #[.slice ra rm rc,.int .i64 rx,.int .i64 ry] 230))):=HT2.out.trans (Tr.alloc _ _ _ _ (by omega) (by omega));have hle:=HI3.out.le;cases hr:qa9 n x.1.data.toList
   ·have hnx:¬(qa9 n (lst x)=true∧pre.length<16):=fun h=>by have h1:qa9 n x.1.data.toList=true:=h.1;rw[hr] at h1;cases h1
    have HNX:=qaa hnx;clear hnx
    gi_wp2
    generalize w2.alloc (.cells #[.slice ra rm rc,.int .i64 rx,.int .i64 ry] 230)=V at *;obtain⟨ao,cap,xs,hp,ho,HXE⟩:=HI3.out.rules;have c4:V.cell? ⟨w.heap.size+1+1+1+1,0,none⟩=some (.slice ao pre.length cap):=hp.cell;have c1:=HI3.out.r0.cell;have f1:=HI3.out.r0.frozen;have c2:V.cell? ⟨w.heap.size+1+1,0,none⟩=some (.int .i64 0):=HI3.out.r1.cell;have f2:V.frozen? ⟨w.heap.size+1+1,0,none⟩=false:=HI3.out.r1.frozen;have c3:V.cell? ⟨w.heap.size+1+1+1,0,none⟩=some (.int .i64 0):=HI3.out.r2.cell;have f3:V.frozen? ⟨w.heap.size+1+1+1,0,none⟩=false:=HI3.out.r2.frozen
    gi_region
    all_goals gi_wp2
    all_goals exact⟨((HT3.out.trans (qoF V (by have:=HI3.out.size;omega) (by have:=HI3.out.size;omega))).trans (HI3.out.drew.out x HNX.out).2).keep,(HI3.out.drew.out x HNX.out).1⟩
   have hsz2:w2.heap.size<(w2.alloc (.cells #[.slice ra rm rc,.int .i64 rx,.int .i64 ry] 230)).heap.size:=by simp
   have hrow:=qac w2 (.cells #[.slice ra rm rc,.int .i64 rx,.int .i64 ry] 230);obtain⟨ao,cap,xs,hp,ho,HXE⟩:=HI3.out.rules;have c4:(w2.alloc (.cells #[.slice ra rm rc,.int .i64 rx,.int .i64 ry] 230)).cell? ⟨w.heap.size+1+1+1+1,0,none⟩=some (.slice ao pre.length cap):=hp.cell;have HP:=qaa hp;have HO:=qaa ho;by_cases h16:(pre.length:Int)=16
   ·have HNX:Hid (¬(qa9 n (lst x)=true∧pre.length<16)):=fun h=>by omega
    have c1:=HI3.out.r0.cell;have f1:=HI3.out.r0.frozen;have c2:(w2.alloc (.cells #[.slice ra rm rc,.int .i64 rx,.int .i64 ry] 230)).cell? ⟨w.heap.size+1+1,0,none⟩=some (.int .i64 0):=HI3.out.r1.cell;have f2:(w2.alloc (.cells #[.slice ra rm rc,.int .i64 rx,.int .i64 ry] 230)).frozen? ⟨w.heap.size+1+1,0,none⟩=false:=HI3.out.r1.frozen;have c3:(w2.alloc (.cells #[.slice ra rm rc,.int .i64 rx,.int .i64 ry] 230)).cell? ⟨w.heap.size+1+1+1,0,none⟩=some (.int .i64 0):=HI3.out.r2.cell;have f3:(w2.alloc (.cells #[.slice ra rm rc,.int .i64 rx,.int .i64 ry] 230)).frozen? ⟨w.heap.size+1+1+1,0,none⟩=false:=HI3.out.r2.frozen
    gi_wp2
    generalize w2.alloc (.cells #[.slice ra rm rc,.int .i64 rx,.int .i64 ry] 230)=V at *
    gi_region
    all_goals gi_wp2
    all_goals
     have o:=HI3.out.drew.out x HNX.out;rw[h16] at o;exact⟨((HT3.out.trans (qoF V (by have:=HI3.out.size;omega) (by have:=HI3.out.size;omega))).trans o.2).keep,o.1⟩
   have HRB:Hid (qa9 n (lst x)=true):=hr;have HC3:=qaa (HC2.out hr)
   gi_wp2_with (first
    |(gi_at_builtin;refine wpListIn_append_own _ rfl _ _ 108 rfl (w.heap.size+8) 230 i0 (.agg qc2) 3 40 underlying108 hi hz0 hz1 hz2 rfl (by decide) _ _ _ rfl (HO.out.alloc _) ⟨w2.heap.size+1,0,none⟩ 1 1 [.slice ra rm rc,.int .i64 rx,.int .i64 ry] rfl rfl (qbP _ _ _ _) (fun x hx=>by simp at hx;rcases hx with rfl|rfl|rfl<;>rfl) (by unfold maxLen;omega) (by omega) (by simp;omega) ?_;intro v' w5 hown' hgrow5 hnil5;obtain⟨g5,cap5,rfl⟩:=ownsRow_succ hown';have hp5:=(HP.out.alloc _).kept hgrow5 (fun e=>by have:=qbp HO.out e.symm;omega);have c5:w5.cell? ⟨w.heap.size+1+1+1+1,0,none⟩=some (.slice ao pre.length cap):=hp5.cell;have f5:w5.frozen? ⟨w.heap.size+1+1+1+1,0,none⟩=false:=hp5.frozen))
   exact qw6 (HI3.out.alloc _) (HT3.out.trans (Tr.alloc _ _ _ _ (by simp;omega) (by simp;omega))) (HP.out.alloc _) (HO.out.alloc _) hown' hgrow5 h16 HRB.out (HXE.out.below bwA) ((HC3.out.2.2.2.below bwA).below bwA) (by show _++[Value.slice ra rm rc,.int .i64 rx,.int .i64 ry]=_;rw[HC3.out.1,HC3.out.2.1,HC3.out.2.2.1];rfl)
  case done =>
   intro D xs W hD hS hI hK;obtain⟨ao,cap,ys,hp,ho,HYE⟩:=hI.rules;have HO:=qaa ho;have HI:=qaa hI;have HS:=qaa hS;have HK:=qaa hK;have c4:W.cell? ⟨w.heap.size+1+1+1+1,0,none⟩=some (.slice ao xs.length cap):=hp.cell;have c1:=hI.r0.cell;have f1:=hI.r0.frozen;have c2:W.cell? ⟨w.heap.size+1+1,0,none⟩=some (.int .i64 0):=hI.r1.cell;have f2:W.frozen? ⟨w.heap.size+1+1,0,none⟩=false:=hI.r1.frozen;have c3:W.cell? ⟨w.heap.size+1+1+1,0,none⟩=some (.int .i64 0):=hI.r2.cell;have f3:W.frozen? ⟨w.heap.size+1+1+1,0,none⟩=false:=hI.r2.frozen
   gi_wp2
   have hy:=qv3 HNE.out HS.out HI.out.le HI.out.all;have hE:qez n s.data.toList=0:=by unfold qez;rw[hy];rfl
   have hN:qka n s.data.toList=0:=by unfold qka;rw[hy];rfl
   have t1:=Tr.set w.heap.size (w.heap.size+5) W (w.heap.size+1) (.slice ao xs.length cap) (by omega) (by omega);have t2:=Tr.set w.heap.size (w.heap.size+5) (W.setCell ⟨w.heap.size+1,0,none⟩ (.slice ao xs.length cap)) (w.heap.size+1+1) (.int .i64 0) (by omega) (by omega);have t3:=Tr.set w.heap.size (w.heap.size+5) ((W.setCell ⟨w.heap.size+1,0,none⟩ (.slice ao xs.length cap)).setCell ⟨w.heap.size+1+1,0,none⟩ (.int .i64 0)) (w.heap.size+1+1+1) (.int .i64 0) (by omega) (by omega);have g1:=grownBy_setCell' W (w.heap.size+1) (.slice ao xs.length cap);have g2:=grownBy_setCell' (W.setCell ⟨w.heap.size+1,0,none⟩ (.slice ao xs.length cap)) (w.heap.size+1+1) (.int .i64 0);have g3:=grownBy_setCell' ((W.setCell ⟨w.heap.size+1,0,none⟩ (.slice ao xs.length cap)).setCell ⟨w.heap.size+1+1,0,none⟩ (.int .i64 0)) (w.heap.size+1+1+1) (.int .i64 0);have b0:=((HI.out.r0.set (.slice ao xs.length cap)).kept g2 (by intro e;injection e with e;omega)).kept g3 (by intro e;injection e with e;omega);have b1:=(Boxed.set (.int .i64 0) (HI.out.r1.kept g1 (by intro e;injection e with e;omega))).kept g3 (by intro e;injection e with e;omega);have b2:=Boxed.set (.int .i64 0) ((HI.out.r2.kept g1 (by intro e;injection e with e;omega)).kept g2 (by intro e;injection e with e;omega));have hb:=HI.out.below.trans ((t1.trans t2).trans t3).below;have hK:=((t1.trans t2).trans t3).keep.same D _ HK.out rfl;have HC:Hid (∀j,w.heap.size+8≤j→(((W.setCell ⟨w.heap.size+1,0,none⟩ (.slice ao xs.length cap)).setCell ⟨w.heap.size+1+1,0,none⟩ (.int .i64 0)).setCell ⟨w.heap.size+1+1+1,0,none⟩ (.int .i64 0)).heap[j]? = W.heap[j]?):=fun j hj=>((Below.heap_setCell _ _ _ _ (by simp;omega)).trans (Below.heap_setCell _ _ _ _ (by simp;omega))).trans (Below.heap_setCell _ _ _ _ (by simp;omega));generalize ((W.setCell ⟨w.heap.size+1,0,none⟩ (.slice ao xs.length cap)).setCell ⟨w.heap.size+1+1,0,none⟩ (.int .i64 0)).setCell ⟨w.heap.size+1+1+1,0,none⟩ (.int .i64 0)=V at *;refine⟨by simp,.inl ⟨D,_,rfl,run_takeDeferred hK,?_⟩⟩;have e0:=(Boxed.kept b0 (grownBy_putObj' V D (.deferred none)) (by intro e;injection e with e;omega)).cell;have e1:(V.putObj D (.deferred none)).cell? ⟨w.heap.size+1+1,0,none⟩=some (.int .i64 0):=(Boxed.kept b1 (grownBy_putObj' V D (.deferred none)) (by intro e;injection e with e;omega)).cell;have e2:(V.putObj D (.deferred none)).cell? ⟨w.heap.size+1+1+1,0,none⟩=some (.int .i64 0):=(Boxed.kept b2 (grownBy_putObj' V D (.deferred none)) (by intro e;injection e with e;omega)).cell;refine⟨.tuple #[.slice ao xs.length cap,.int .i64 0,.int .i64 0],?_,⟨ao,xs.length,cap,by rw[hE,hN],qbs hb (by omega) _,fun _=>qtl HNE.out HS.out HO.out HYE.out HK.out HC.out⟩⟩;simp[results,f83,go_sem,e0,e1,e2]
  case stop =>
   intro D c pre W hD hS hX hK;obtain rfl:=hX.ret
   gi_wp2
   obtain⟨q,x,rfl,hb3,ha,hlq,hx⟩:=hX.bad;obtain⟨r,hr⟩:=hS;have hy:=qxv HNE.out hr ha hlq hx;have hE:qez n s.data.toList=6:=by unfold qez;rw[hy,if_pos (by omega)]
   have hN:qka n s.data.toList=q.length:=by unfold qka;rw[hy,if_pos (by omega)]
   refine⟨by simp,.inl ⟨D,_,rfl,run_takeDeferred hK,?_⟩⟩;have e0:=(hX.r0.kept (grownBy_putObj' W D (.deferred none)) (by intro e;injection e with e;omega)).cell;have e1:(W.putObj D (.deferred none)).cell? ⟨w.heap.size+1+1,0,none⟩=some (.int .i64 6):=(hX.r1.kept (grownBy_putObj' W D (.deferred none)) (by intro e;injection e with e;omega)).cell;have e2:(W.putObj D (.deferred none)).cell? ⟨w.heap.size+1+1+1,0,none⟩=some (.int .i64 (q.length:Nat)):=(hb3.kept (grownBy_putObj' W D (.deferred none)) (by intro e;injection e with e;omega)).cell;refine⟨.tuple #[.slice none 0 0,.int .i64 6,.int .i64 (q.length:Nat)],?_,⟨none,0,0,by rw[hE,hN],qbs hX.below (by omega) _,fun e=>by rw[hE] at e;cases e⟩⟩;simp[results,f83,go_sem,e0,e1,e2]
 have h0:s.data.toList=[]:=by rw[←Lib.toList_data];exact eq_of_beq hd
 have hy:qa3 n s.data.toList = -1:=by unfold qa3;rw[h0];rfl
 have HE:Hid (qez n s.data.toList=0):=by show _=_;unfold qez;rw[hy];rfl
 have HN:Hid (qka n s.data.toList=0):=by show _=_;unfold qka;rw[hy];rfl
 have HP0:Hid (qcA s.data.toList=[]):=by show _=_;unfold qcA;rw[h0];rfl
 go_enter func83,ntmps83;go_wp2;have e3:=qfR w n 0;have hb:Below w.heap.size w ((((w.alloc (.cells #[.int .i64 n] 3)).alloc (.cells #[.slice none 0 0] 108)).alloc (.cells #[.int .i64 0] 31)).alloc (.cells #[.int .i64 0] 3)):=((((bwA).alloc (by simp) _).alloc (by simp;omega) _).alloc (by simp;omega) _)
 generalize (((w.alloc (.cells #[.int .i64 n] 3)).alloc (.cells #[.slice none 0 0] 108)).alloc (.cells #[.int .i64 0] 31)).alloc (.cells #[.int .i64 0] 3)=V at *;obtain⟨e0,e1,e2⟩:=e3;refine bodyPost_ret (v:=.tuple #[.slice none 0 0,.int .i64 0,.int .i64 0]) (by simp[results,f83,go_sem,e0,e1,e2]) rfl ?_;exact⟨none,0,0,by rw[HE.out,HN.out],hb,fun _=>by rw[HP0.out];exact⟨[],World.ownsRow_nil _ _ _ _,qnO _ _ _⟩⟩
end
end
end Go.Proofs.YtllcbnfmihfaaaaGreatDoor
