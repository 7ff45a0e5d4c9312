import Derived.Test.YtllcbnfmihfaaaaGreatDoorCq14
set_option maxRecDepth 100000
set_option maxHeartbeats 8000000
namespace Go.Proofs.YtllcbnfmihfaaaaGreatDoor
open Go.Proofs.Tryz
variable {V W W' w w5:World}{pre:List Str}{x:Str}{xs ys:List Value}{v v':Value}
section
open Go.RowKit Go.Shelf
section
attribute [local go_sem] Oper.semAt_some
structure PgI (w:World)(pre:List Str)(W:World):Prop where
 below:Below w.heap.size w W
 r0:Boxed W w.heap.size 228 (.slice none 0 0)
 r1:Boxed W (w.heap.size+1) 4 (.bool false)
 pat:∃ao cap xs,Boxed W (w.heap.size+2) 228 (.slice ao pre.length cap)∧W.ownsRow (w.heap.size+6) 235 2 (.slice ao pre.length cap) pre.length xs∧Hid (xs=pre.flatMap fun x=>sgC (sgS (lst x)))
 le:pre.length≤8
 all:pre.all (fun x=>qg3 (lst x))=true
 size:w.heap.size+6≤W.heap.size
theorem PgI.own {row:Nat}(h:PgI w pre W)(hg:W.grownBy W' (some row))(h1:row=w.heap.size+3∨(w.heap.size+6≤row∧∃o,W.heap[row]? = some o∧o.isCells=false)):PgI w pre W':=by
 obtain⟨ao,cap,xs,hp,ho,hxs⟩:=h.pat;refine⟨h.below.trans ⟨hg.os,hg.tape,hg.output,hg.size,fun i hi=>hg.block i (by have:=h.size;omega) (by intro e;cases e;omega)⟩,h.r0.kept hg (by intro e;cases e;omega),h.r1.kept hg (by intro e;cases e;omega),⟨ao,cap,xs,hp.kept hg (by intro e;cases e;omega),ho.kept hg ?_,hxs⟩,h.le,h.all,Nat.le_trans h.size hg.size⟩;rcases ho.2 with ⟨h0,_⟩|⟨g',cap',cur,h0,hb',hh,_⟩
 ·left;rw[h0];rfl
 right;rw[h0];intro e;cases e;rcases h1 with h1|⟨_,o,ho',hc⟩
 ·have h1':g'=w.heap.size+3:=h1;omega
 rw[hh] at ho';cases ho';cases hc
theorem PgI.out {post:List Str}(h:PgI w pre W)(hb:8<post.length∨post.all (fun x=>qg3 (lst x))=false):qvy w post .ret ((W.setCell ⟨w.heap.size,0,none⟩ (.slice none 0 0)).setCell ⟨w.heap.size+1,0,none⟩ (.bool false)):=by
 have t1:=Tr.set w.heap.size (w.heap.size+3) W w.heap.size (.slice none 0 0) (Nat.le_refl _) (by omega);have t2:=Tr.set w.heap.size (w.heap.size+3) (W.setCell ⟨w.heap.size,0,none⟩ (.slice none 0 0)) (w.heap.size+1) (.bool false) (by omega) (by omega);refine⟨rfl,h.below.trans (t1.trans t2).below,?_,?_,hb,?_⟩
 ·exact(h.r0.set _).kept (grownBy_setCell' _ _ _) (by intro e;injection e with e;omega)
 ·exact Boxed.set _ (h.r1.kept (grownBy_setCell' _ _ _) (by intro e;injection e with e;omega))
 simp[World.setCell];exact h.size
theorem PgI.alloc (h:PgI w pre W)(o:Obj):PgI w pre (W.alloc o):=h.own (World.grownBy_alloc W o (some (w.heap.size+3))) (.inl rfl)
theorem PgI.belowS (h:PgI w pre W)(hb:Below W.heap.size W W'):PgI w pre W' :=
 h.own (row:=w.heap.size+3) ⟨hb.os,hb.tape,hb.output,hb.size,fun i hi _=>hb.block i hi⟩ (.inl rfl)
theorem qt7 (w:World)(s:ByteArray)(W0:World)(hW0:((((((w.alloc (.cells #[.slice none 0 0] 228)).alloc (.cells #[.bool false] 4)).alloc (.cells #[.slice none 0 0] 228)).alloc (.cells #[.string s] 9)).alloc (.cells #[.string ⟨#[47]⟩] 9)).alloc (.cells #[.int .i64 0] 3))=W0):PgI w [] W0:=by
 subst hW0;refine⟨?_,?_,?_,⟨none,0,[],?_,World.ownsRow_nil _ _ _ _,rfl⟩,Nat.zero_le _,rfl,by simp⟩
 ·exact(((((bwA).alloc (by simp) _).alloc (by simp;omega) _).alloc (by simp;omega) _).alloc (by simp;omega) _).alloc (by simp;omega) _
 ·exact(((((Boxed.new w _ _).alloc _).alloc _).alloc _).alloc _).alloc _
 ·have:=Boxed.new (w.alloc (.cells #[.slice none 0 0] 228)) 4 (.bool false);rw[World.size_alloc] at this;exact(((this.alloc _).alloc _).alloc _).alloc _
 have:=Boxed.new ((w.alloc (.cells #[.slice none 0 0] 228)).alloc (.cells #[.bool false] 4)) 228 (.slice none 0 0);rw[World.size_alloc,World.size_alloc] at this;exact((this.alloc _).alloc _).alloc _
theorem qkv {i:Nat}(hi:i<3)(h:(x.1.toList==sgL i)=true):sgC (sgS (lst x))=[.int .i64 (i:Nat),.string ⟨#[]⟩]:=by
 have e:lst x=sgL i:=by unfold lst;rw[←Lib.toList_data];exact eq_of_beq h
 rw[e]
 match i,hi with
 |0,_=>rfl
 |1,_=>rfl
 |2,_=>rfl
theorem qwr (h:∀i,i<3→(x.1.toList==sgL i)=false):sgC (sgS (lst x))=[.int .i64 3,.string x.1]:=by
 have e:lst x=x.1.toList:=by unfold lst;rw[←Lib.toList_data]
 have h0:=h 0 (by omega);have h1:=h 1 (by omega);have h2:=h 2 (by omega);simp only[sgL] at h0 h1 h2;have e2:sgS (lst x)=(3,lst x):=by
  unfold sgS;rw[e,h0,h1,h2];simp
 rw[e2];unfold sgC lst;rw[qwF];rfl
def qwf (s:ByteArray)(w:World)(e:Ending)(w':World):Prop :=
 ∃a n cap,e=.returned (.tuple #[.slice a n cap,.bool (qe8 s.data.toList)])∧Below w.heap.size w w'∧(qe8 s.data.toList=true→n=(qiL s.data.toList).length∧qkk w' w.heap.size 235 a (((qiL s.data.toList).map sgS).flatMap sgC))
theorem qtF {s:ByteArray}{hs:s.size≤2000}{xs:List Str}{ao:Option Addr}{cap D:Nat}(hd:(s.toList==[46])=false)(h:xs.map lst=qal 47 (lst ⟨s,hs⟩))(ho:W.ownsRow (w.heap.size+6) 235 2 (.slice ao xs.length cap) xs.length ys)(hy:ys=xs.flatMap fun x=>sgC (sgS (lst x)))(hK:W.heap[D]? = some (.deferred (some [])))(hV:∀j,w.heap.size+6≤j→V.heap[j]? = W.heap[j]?):xs.length=(qiL s.data.toList).length∧qkk (V.putObj D (.deferred none)) w.heap.size 235 ao (((qiL s.data.toList).map sgS).flatMap sgC):=by
 have hp:qiL s.data.toList=xs.map lst:=by
  unfold qiL;rw[←Lib.toList_data,hd,Lib.toList_data];exact h.symm
 obtain⟨pa,cp,he,hc⟩:=quU (lo:=w.heap.size+6) ho (Nat.le_refl _);injection he with he1 _ he3;subst he1;rw[hp,List.length_map];refine⟨rfl,?_⟩;rw[List.map_map,List.flatMap_map];have e3:ys=xs.flatMap fun a=>sgC ((sgS∘lst) a):=hy;rw[←e3];refine hc.kept fun b cur fr h1 h3=>⟨by omega,?_⟩
 have hne:b≠D:=by
  rintro rfl;rw[hK] at h3;cases h3
 have:=grownBy_putObj' V D (.deferred none);have h4:=hV b h1;rw[this.block b (by have h5:=(h4.trans h3);exact ltA h5) (by simpa using hne),h4];exact h3
theorem PgI.push (x:Str)(h:PgI w pre W)(hp:Boxed W (w.heap.size+2) 228 v)(ho:W.ownsRow (w.heap.size+6) 235 2 v pre.length xs)(ho':w5.ownsRow (w.heap.size+6) 235 2 v' (pre.length+1) ys)(hg:W.grownBy w5 v.ownBlock)(h8:pre.length<8)(hs:qg3 (lst x)=true)(hxs:Hid (xs=pre.flatMap fun x=>sgC (sgS (lst x))))(hys:ys=xs++sgC (sgS (lst x))):PgI w (pre++[x]) (w5.setCell ⟨w.heap.size+1+1,0,none⟩ v')∧Tr w.heap.size (w.heap.size+3) W (w5.setCell ⟨w.heap.size+1+1,0,none⟩ v'):=by
 have key:=fun g h=>qbp ho (g:=g) h;have t1:Tr w.heap.size (w.heap.size+3) W w5:=Tr.grown ho hg h.size (by omega) (by omega);have t2:=Tr.set w.heap.size (w.heap.size+3) w5 (w.heap.size+2) v' (by omega) (by omega);have g2:=grownBy_setCell' w5 (w.heap.size+2) v';have hp5:=hp.kept hg (fun e=>by have:=key _ e.symm;omega);obtain⟨g,cap,rfl⟩:=ownsRow_succ ho';refine⟨⟨h.below.trans (t1.trans t2).below,?_,?_,⟨some ⟨g,0,none⟩,cap,ys,?_,?_,?hy⟩,?_,?_,?_⟩,t1.trans t2⟩
 case hy =>
  show ys=_;rw[hys,hxs.out,List.flatMap_append];simp
 ·exact(h.r0.kept hg (fun e=>by have:=key _ e.symm;omega)).kept g2 (by intro e;injection e with e;omega)
 ·exact(h.r1.kept hg (fun e=>by have:=key _ e.symm;omega)).kept g2 (by intro e;injection e with e;omega)
 ·rw[List.length_append];exact hp5.set _
 ·rw[List.length_append];refine ho'.kept g2 (.inr (fun e => ?_));have:=qbp ho' e;omega
 ·rw[List.length_append];simp;omega
 ·rw[List.all_append,h.all];simp[hs]
 exact Nat.le_trans h.size (t1.trans t2).below.size
theorem qlP (h:PgI w pre V)(ht:Tr w.heap.size (w.heap.size+3) W V)(hp:Boxed V (w.heap.size+2) 228 v)(ho:V.ownsRow (w.heap.size+6) 235 2 v pre.length xs)(ho':w5.ownsRow (w.heap.size+6) 235 2 v' (pre.length+1) ys)(hg:V.grownBy w5 v.ownBlock)(h8:¬(pre.length:Int)=8)(hs:qg3 (lst x)=true)(hxs:Hid (xs=pre.flatMap fun x=>sgC (sgS (lst x))))(hys:ys=xs++sgC (sgS (lst x))):KeepsOthers W (w5.setCell ⟨w.heap.size+1+1,0,none⟩ v')∧qc0 (w.heap.size+3) (w.heap.size+3+3) W (w5.setCell ⟨w.heap.size+1+1,0,none⟩ v')∧PgI w (pre++[x]) (w5.setCell ⟨w.heap.size+1+1,0,none⟩ v'):=by
 obtain⟨h1,h2⟩:=h.push x hp ho ho' hg (by have:=h.le;omega) hs hxs hys;exact⟨(ht.trans h2).keep,(ht.trans h2).mid,h1⟩
theorem qfN (s:ByteArray)(w:World)(hs:s.size≤2000)(hgl:qlZ w):Calls prog 185 #[.string s] w fun e w'=>qwf s w e w':=by
 obtain⟨i0,hi,hz0,hz1,hz2⟩:=info_parts Tryz.infoSeg;cases hd:(s.toList==[46])
 ·have HG:=qaa hgl;have HD:=qaa hd;refine(callsIn_wide (n:=10)).1 ?_;refine callsIn_of_wp_marks func185 rfl trivial ?_ rfl;simp only[ntmps185,List.size_toArray,List.length_cons,List.length_nil,Nat.reduceAdd,Nat.reduceSub,Array.replicate_succ,Array.replicate_zero,List.push_toArray,List.append_toArray,List.nil_append,List.cons_append]
  gi_wp2
  refine wpIn_wide.2 (wp_scope_straight ((wpIn_wide (n:=10)).1 ?_))
  gi_wp2_with fail
  refine wpIn_label ?_
  gi_wp2_with fail
  refine⟨trivial,(callsIn_wide.2 (qeR s ⟨#[47]⟩ _)).mono ?_⟩;rintro e w' ⟨rfl,rfl⟩;simp only[World.size_alloc]
  gi_wp2
  obtain⟨W0,hW0⟩:∃W0,((((((w.alloc (.cells #[.slice none 0 0] 228)).alloc (.cells #[.bool false] 4)).alloc (.cells #[.slice none 0 0] 228)).alloc (.cells #[.string s] 9)).alloc (.cells #[.string ⟨#[47]⟩] 9)).alloc (.cells #[.int .i64 0] 3))=W0:=⟨_,rfl⟩
  have hsz:W0.heap.size=w.heap.size+6:=by rw[←hW0];simp
  have hI0:=qt7 w s W0 hW0;have hA0:=qqU w s W0 hW0;rw[hW0];refine qc6 rfl (by omega) (gf:=213) (lb:=#[.pointer (some ⟨w.heap.size+1+1+1+1,0,none⟩),.pointer (some ⟨w.heap.size+1+1+1,0,none⟩),.pointer (some ⟨w.heap.size+1+1+1+1+1,0,none⟩)]) rfl trivial (enters_of func213 (by kernel_rfl) rfl)
   (st:=w.heap.size+3) (by omega) (lo:=w.heap.size+3) (hi:=w.heap.size+3+3) (by omega) (qiV 9 (w.heap.size+3) 47 ⟨s,hs⟩ W0 hA0) bwR (fun x=>rfl)
   (fun pre W=>PgI w pre W) (fun c pre W=>qvy w pre c W)
   (fun pre A B h hg=>h.own hg (.inl rfl)) (fun c pre A B h hg=>h.own hg (by omega))
   (fun pre A k o o' h hB hk hc=>h.own (grownBy_putObj' A k o') (.inr ⟨by omega,o,hk,hc⟩)) (fun c pre A k o o' h hB hk hc=>h.own (grownBy_putObj' A k o') (by omega))
   hI0
   (fun x=>{tmps:=#[.string s,undef,.pointer (some ⟨w.heap.size,0,none⟩),.pointer (some ⟨w.heap.size+1,0,none⟩),.pointer (some ⟨w.heap.size+1+1,0,none⟩),.string x.1,undef,undef,.string s,.bool false,.string s,.func (.func 213) #[] #[.pointer (some ⟨w.heap.size+1+1+1+1,0,none⟩),.pointer (some ⟨w.heap.size+1+1+1,0,none⟩),.pointer (some ⟨w.heap.size+1+1+1+1+1,0,none⟩)],.string x.1,undef,undef,undef,undef,undef,undef,undef,undef,undef,undef,undef,undef,undef,undef,undef,undef,undef,undef,undef,undef,undef,undef,undef,undef,undef,undef,undef,undef],defers:=[]}) ?assign ?body ?done ?stop
  case assign =>
   intro l x W K hK
   gi_wp2
   exact hK
  case body =>
   intro l pre x W hI hlt;have HI:=qaa hI;obtain⟨ao,cap,xs,hp,ho,HXE⟩:=hI.pat;have hle:=hI.le;have c4:W.cell? ⟨w.heap.size+1+1,0,none⟩=some (.slice ao pre.length cap):=hp.cell;have c2:=hI.r0.cell;have f2:=hI.r0.frozen;have c3:=hI.r1.cell;have f3:=hI.r1.frozen;by_cases h8:(pre.length:Int)=8
   ·clear hI hp ho HXE
    gi_wp2
    exact⟨(qsj w W).keep,HI.out.out (.inl (by rw[List.length_append];simp;omega))⟩
   have hb8:=beq_eq_false_iff_ne.2 h8;obtain⟨t,fr,hsg⟩:=(HG.out.below hI.below).signs;have s0:=qab hsg 0;have s1:=qab hsg 1;have s2:=qab hsg 2;have s3:=qab hsg 3;have s4:=qab hsg 4;have s5:=qab hsg 5
   gi_wp2
   gi_loopg [17] 4 (fun g y wr=>∃j:Nat,Hid (j+g=4)∧((j=0∧y=.int .i64 0)∨(j=1∧y=.int .i64 1)∨(j=2∧y=.int .i64 2)∨(j=3∧y=.int .i64 3))∧Hid (PgI w pre wr)∧Hid (Tr w.heap.size (w.heap.size+3) W wr)∧Hid (∀i,i<j→(x.1.toList==sgL i)=false))
   case atStart=>exact⟨0,rfl,.inl ⟨rfl,rfl⟩,HI,Tr.refl _ _ _,fun i hi=>by omega⟩
   case round =>
    obtain⟨j,hj,hjy,HI,HT,HNE⟩:=hrel;have ix0:=fun V=>qsP V;have ix1:=fun V=>qud V;have ix2:=fun V=>qt3 V;obtain⟨ao2,cap2,xs2,hp2,ho2,HX2⟩:=HI.out.pat;have HP:=qaa hp2;have HO:=qaa ho2;have c4:wr.cell? ⟨w.heap.size+1+1,0,none⟩=some (.slice ao2 pre.length cap2):=hp2.cell;have hz6:=HI.out.size;have c4a:∀o,(wr.alloc o).cell? ⟨w.heap.size+1+1,0,none⟩=some (.slice ao2 pre.length cap2):=fun o=>(World.cell?_alloc_some wr _ o (by rw[c4];rfl)).trans c4;rcases hjy with ⟨rfl,rfl⟩|⟨rfl,rfl⟩|⟨rfl,rfl⟩|⟨rfl,rfl⟩
    ·cases hx:(x.1.toList==[42])
     ·have HN2:Hid (∀i,i<1→(x.1.toList==sgL i)=false):=fun i hi=>by
       rcases Nat.lt_succ_iff_lt_or_eq.1 hi with h|rfl
       ·exact HNE.out i h
       exact hx
      gi_wp2
      gi_roundg 3
      case measure=>have:=hj.out;omega
      case rel=>exact⟨1,rfl,.inr (.inl ⟨rfl,by go_num⟩),HI.out.alloc _,HT.out.trans (Tr.alloc _ _ _ _ (by omega) (by omega)),HN2⟩
     gi_wp2_with (first
      |(gi_at_builtin;refine wpListIn_append_own _ rfl _ _ 228 rfl (w.heap.size+6) 235 i0 (.agg #[.int .i64 0,.string ByteArray.empty]) 2 24 underlying228 hi hz0 hz1 hz2 rfl (by decide) _ _ _ rfl ((HO.out.alloc _).alloc _) ⟨wr.heap.size+1,0,none⟩ 1 1 [.int .i64 0,.string ⟨#[]⟩] rfl rfl (qbP _ _ _ _) (fun x hx=>by simp at hx;rcases hx with rfl|rfl<;>rfl) (by unfold maxLen;omega) (by omega) (by simp;omega) ?_;intro v' w5 hown' hgrow5 hnil5;obtain⟨g5,cap5,rfl⟩:=ownsRow_succ hown';have hp5:=((HP.out.alloc _).alloc _).kept hgrow5 (fun e=>by have:=qbp HO.out e.symm;omega);have c5:w5.cell? ⟨w.heap.size+1+1,0,none⟩=some (.slice ao2 pre.length cap2):=hp5.cell;have f5:w5.frozen? ⟨w.heap.size+1+1,0,none⟩=false:=hp5.frozen))
     exact qlP ((HI.out.alloc _).alloc _) ((HT.out.trans (Tr.alloc _ _ _ _ (by omega) (by omega))).trans (Tr.alloc _ _ _ _ (by simp;omega) (by simp;omega))) ((HP.out.alloc _).alloc _) ((HO.out.alloc _).alloc _) hown' hgrow5 h8 (qih (i:=0) hx) HX2 (by rw[qkv (i:=0) (by omega) hx];rfl)
    ·cases hx:(x.1.toList==[42,42])
     ·have HN2:Hid (∀i,i<2→(x.1.toList==sgL i)=false):=fun i hi=>by
       rcases Nat.lt_succ_iff_lt_or_eq.1 hi with h|rfl
       ·exact HNE.out i h
       exact hx
      gi_wp2
      gi_roundg 2
      case measure=>have:=hj.out;omega
      case rel=>exact⟨2,rfl,.inr (.inr (.inl ⟨rfl,by go_num⟩)),HI.out.alloc _,HT.out.trans (Tr.alloc _ _ _ _ (by omega) (by omega)),HN2⟩
     gi_wp2_with (first
      |(gi_at_builtin;refine wpListIn_append_own _ rfl _ _ 228 rfl (w.heap.size+6) 235 i0 (.agg #[.int .i64 0,.string ByteArray.empty]) 2 24 underlying228 hi hz0 hz1 hz2 rfl (by decide) _ _ _ rfl ((HO.out.alloc _).alloc _) ⟨wr.heap.size+1,0,none⟩ 1 1 [.int .i64 1,.string ⟨#[]⟩] rfl rfl (qbP _ _ _ _) (fun x hx=>by simp at hx;rcases hx with rfl|rfl<;>rfl) (by unfold maxLen;omega) (by omega) (by simp;omega) ?_;intro v' w5 hown' hgrow5 hnil5;obtain⟨g5,cap5,rfl⟩:=ownsRow_succ hown';have hp5:=((HP.out.alloc _).alloc _).kept hgrow5 (fun e=>by have:=qbp HO.out e.symm;omega);have c5:w5.cell? ⟨w.heap.size+1+1,0,none⟩=some (.slice ao2 pre.length cap2):=hp5.cell;have f5:w5.frozen? ⟨w.heap.size+1+1,0,none⟩=false:=hp5.frozen))
     exact qlP ((HI.out.alloc _).alloc _) ((HT.out.trans (Tr.alloc _ _ _ _ (by omega) (by omega))).trans (Tr.alloc _ _ _ _ (by simp;omega) (by simp;omega))) ((HP.out.alloc _).alloc _) ((HO.out.alloc _).alloc _) hown' hgrow5 h8 (qih (i:=1) hx) HX2 (by rw[qkv (i:=1) (by omega) hx];rfl)
    ·cases hx:(x.1.toList==[91,93])
     ·have HN2:Hid (∀i,i<3→(x.1.toList==sgL i)=false):=fun i hi=>by
       rcases Nat.lt_succ_iff_lt_or_eq.1 hi with h|rfl
       ·exact HNE.out i h
       exact hx
      gi_wp2
      gi_roundg 1
      case measure=>have:=hj.out;omega
      case rel=>exact⟨3,rfl,.inr (.inr (.inr ⟨rfl,by go_num⟩)),HI.out.alloc _,HT.out.trans (Tr.alloc _ _ _ _ (by omega) (by omega)),HN2⟩
     gi_wp2_with (first
      |(gi_at_builtin;refine wpListIn_append_own _ rfl _ _ 228 rfl (w.heap.size+6) 235 i0 (.agg #[.int .i64 0,.string ByteArray.empty]) 2 24 underlying228 hi hz0 hz1 hz2 rfl (by decide) _ _ _ rfl ((HO.out.alloc _).alloc _) ⟨wr.heap.size+1,0,none⟩ 1 1 [.int .i64 2,.string ⟨#[]⟩] rfl rfl (qbP _ _ _ _) (fun x hx=>by simp at hx;rcases hx with rfl|rfl<;>rfl) (by unfold maxLen;omega) (by omega) (by simp;omega) ?_;intro v' w5 hown' hgrow5 hnil5;obtain⟨g5,cap5,rfl⟩:=ownsRow_succ hown';have hp5:=((HP.out.alloc _).alloc _).kept hgrow5 (fun e=>by have:=qbp HO.out e.symm;omega);have c5:w5.cell? ⟨w.heap.size+1+1,0,none⟩=some (.slice ao2 pre.length cap2):=hp5.cell;have f5:w5.frozen? ⟨w.heap.size+1+1,0,none⟩=false:=hp5.frozen))
     exact qlP ((HI.out.alloc _).alloc _) ((HT.out.trans (Tr.alloc _ _ _ _ (by omega) (by omega))).trans (Tr.alloc _ _ _ _ (by simp;omega) (by simp;omega))) ((HP.out.alloc _).alloc _) ((HO.out.alloc _).alloc _) hown' hgrow5 h8 (qih (i:=2) hx) HX2 (by rw[qkv (i:=2) (by omega) hx];rfl)
    have cL:=qh7 x.1 wr x.2 (HG.out.below HI.out.below)
    gi_wp2_with fail
    refine⟨trivial,((callsIn_wide.2 cL).inRound l).mono ?_⟩;rintro e w2 ⟨rfl,hB⟩;simp only[];have HI2:=qaa (HI.out.belowS hB);have HT2:=qaa (HT.out.trans (Tr.below' hB (by omega) (by omega)));have hz7:=HI2.out.size;obtain⟨ao3,cap3,xs3,hp3,ho3,HX3⟩:=HI2.out.pat;have HP3:=qaa hp3;have HO3:=qaa ho3;have c4:w2.cell? ⟨w.heap.size+1+1,0,none⟩=some (.slice ao3 pre.length cap3):=hp3.cell;have c2:=HI2.out.r0.cell;have f2:=HI2.out.r0.frozen;have c3:=HI2.out.r1.cell;have f3:=HI2.out.r1.frozen;have hseg:=qtx HNE.out;have HLT:=qaa (qwr HNE.out);cases hlt2:qgw x.1.data.toList
    ·have HX:Hid ((pre++[x]).all (fun x=>qg3 (lst x))=false):=by show _=_;rw[List.all_append];simp[hseg,hlt2]
     gi_wp2
     exact⟨(HT2.out.trans (qsj w w2)).keep,HI2.out.out (.inr HX.out)⟩
    rw[hlt2] at hseg;have HSG:=qaa hseg
    gi_wp2_with fail
    refine wpIn_region_any (by kernel_rfl) ?_;have HC:Hid (∀V,Calls prog 218 #[.string x.1] V fun e V'=>e=.returned (.string x.1)∧Below V.heap.size V V'):=fun V=>qn1 x.1 V (by have:=x.2;omega);have hlt4:w.heap.size+1+1<w2.heap.size:=by omega
    have c4d:(World.drew w2).cell? ⟨w.heap.size+1+1,0,none⟩=some (.slice ao3 pre.length cap3):=c4;change wpAnyIn _ _ _ _ _ _ _ _ _ (World.drew w2);refine qns #[true,true,true,true,true,false,false] 2 (fun V=>[(34,.slice ao3 pre.length cap3),(35,.string x.1),(36,.string x.1),(37,.agg #[.int .i64 3,.string x.1]),(38,.slice (some ⟨V.heap.size,0,none⟩) 1 1)]) (fun V=>Below (World.drew w2).heap.size (World.drew w2) V) (fun V=>V.alloc (.cells #[.int .i64 3,.string x.1] 235)) (fun hvia => ?reg) ?tail
    case tail =>
     intro V hBV;have hB2:Below w2.heap.size w2 V:=(((Below.refl _ w2).drew).trans hBV)
     have HI3:=qaa (HI2.out.belowS hB2);have HT3:=qaa (HT2.out.trans (Tr.below' hB2 (by omega) (by omega)));have hz8:=HI3.out.size;have hlt3:∀g,(Value.slice ao3 pre.length cap3).ownBlock=some g→g<w2.heap.size:=fun g hg=>by
      rcases HO3.out.2 with ⟨h0,_⟩|⟨g',_,_,h0,_,hh,_⟩
      ·rw[h0] at hg;cases hg
      rw[h0] at hg;cases hg;exact ltA hh
     have HP4:Hid (Boxed V (w.heap.size+2) 228 (.slice ao3 pre.length cap3)):=(hB2.block _ (by omega)).trans HP3.out;have HO4:Hid (V.ownsRow (w.heap.size+6) 235 2 (.slice ao3 pre.length cap3) pre.length xs3):=by
      refine⟨HO3.out.1,?_⟩;rcases HO3.out.2 with h0|⟨g',cp,cur,h0,h1,hh,h2⟩
      ·exact .inl h0
      exact .inr ⟨g',cp,cur,h0,h1,(hB2.block g' (ltA hh)).trans hh,h2⟩
     simp only[List.foldl];refine wpAnyIn_ready (rs:=[5]) (by kernel_rfl) (by simp) ?_;refine AllReadyIn.cons rfl (fun K hK => ?_) AllReadyIn.nil;rw[if_pos (by rfl)];refine qgp _ _ 228 rfl (w.heap.size+6) 235 i0 (.agg #[.int .i64 0,.string ByteArray.empty]) 2 24 underlying228 hi hz0 hz1 hz2 rfl (by decide) _ _ _ rfl (HO4.out.alloc _) ⟨V.heap.size,0,none⟩ 1 1 [.int .i64 3,.string x.1] rfl rfl (qhU _ _ _) (fun x hx=>by simp at hx;rcases hx with rfl|rfl<;>rfl) (by unfold maxLen;omega) (by omega) (by simp;omega) ?_;intro v' w5 hown' hgrow5;obtain⟨g5,cap5,rfl⟩:=ownsRow_succ hown';have hp5:=(HP4.out.alloc _).kept hgrow5 (fun e=>by have:=qbp HO4.out e.symm;omega);have c5:w5.cell? ⟨w.heap.size+1+1,0,none⟩=some (.slice ao3 pre.length cap3):=hp5.cell;have f5:w5.frozen? ⟨w.heap.size+1+1,0,none⟩=false:=hp5.frozen;refine hK _ _ ?_;refine wpAnyIn_ready (rs:=[6]) (by kernel_rfl) (by simp) ?_;refine AllReadyIn.cons rfl (fun K hK => ?_) AllReadyIn.nil;go_simp;refine hK _ _ ?_;refine wpAnyIn_done (by kernel_rfl) ?_ _
     gi_wp2
     exact qlP (HI3.out.alloc _) (HT3.out.trans (Tr.alloc _ _ _ _ (by omega) (by omega))) (HP4.out.alloc _) (HO4.out.alloc _) hown' hgrow5 h8 HSG.out HX3 (by rw[HLT.out])
    case reg =>
     refine wpAnyIn_ready (rs:=[0,1]) (by kernel_rfl) (by simp) ?_;refine AllReadyIn.cons rfl (fun K hK => ?_) (AllReadyIn.cons rfl (fun K hK => ?_) AllReadyIn.nil)
     ·go_simp;refine hK _ _ ?_;refine wpAnyIn_ready (rs:=[1]) (by kernel_rfl) (by simp) ?_;refine AllReadyIn.cons rfl (fun K hK => ?_) AllReadyIn.nil;go_simp;refine hK _ _ ?_;refine wpAnyIn_ready (rs:=[2]) (by kernel_rfl) (by simp) ?_;refine AllReadyIn.cons rfl (fun K hK => ?_) AllReadyIn.nil;go_simp;refine⟨trivial,((callsIn_wide.2 (HC.out _)).inRound l).mono ?_⟩;rintro e w3 ⟨rfl,hB3⟩;simp only[];have c43:=(hB3.cell (p:=⟨w.heap.size+1+1,0,none⟩) hlt4).trans c4d;refine hK _ _ ?_;refine wpAnyIn_ready (rs:=[3]) (by kernel_rfl) (by simp) ?_;refine AllReadyIn.cons rfl (fun K hK => ?_) AllReadyIn.nil;go_simp;refine hK _ _ ?_;refine wpAnyIn_ready (rs:=[4]) (by kernel_rfl) (by simp) ?_;refine AllReadyIn.cons rfl (fun K hK => ?_) AllReadyIn.nil;go_simp;refine hK _ _ ?_;exact hvia _ hB3
     go_simp;refine hK _ _ ?_;refine wpAnyIn_ready (rs:=[0,2]) (by kernel_rfl) (by simp) ?_;refine AllReadyIn.cons rfl (fun K hK => ?_) (AllReadyIn.cons rfl (fun K hK => ?_) AllReadyIn.nil)
     ·go_simp;refine hK _ _ ?_;refine wpAnyIn_ready (rs:=[2]) (by kernel_rfl) (by simp) ?_;refine AllReadyIn.cons rfl (fun K hK => ?_) AllReadyIn.nil;go_simp;refine⟨trivial,((callsIn_wide.2 (HC.out _)).inRound l).mono ?_⟩;rintro e w3 ⟨rfl,hB3⟩;simp only[];have c43:=(hB3.cell (p:=⟨w.heap.size+1+1,0,none⟩) hlt4).trans c4d;refine hK _ _ ?_;refine wpAnyIn_ready (rs:=[3]) (by kernel_rfl) (by simp) ?_;refine AllReadyIn.cons rfl (fun K hK => ?_) AllReadyIn.nil;go_simp;refine hK _ _ ?_;refine wpAnyIn_ready (rs:=[4]) (by kernel_rfl) (by simp) ?_;refine AllReadyIn.cons rfl (fun K hK => ?_) AllReadyIn.nil;go_simp;refine hK _ _ ?_;exact hvia _ hB3
     go_simp;refine⟨trivial,((callsIn_wide.2 (HC.out _)).inRound l).mono ?_⟩;rintro e w3 ⟨rfl,hB3⟩;simp only[];have c43:=(hB3.cell (p:=⟨w.heap.size+1+1,0,none⟩) hlt4).trans c4d;refine hK _ _ ?_;refine wpAnyIn_ready (rs:=[0,3]) (by kernel_rfl) (by simp) ?_;refine AllReadyIn.cons rfl (fun K hK => ?_) (AllReadyIn.cons rfl (fun K hK => ?_) AllReadyIn.nil)
     ·go_simp;refine hK _ _ ?_;refine wpAnyIn_ready (rs:=[3]) (by kernel_rfl) (by simp) ?_;refine AllReadyIn.cons rfl (fun K hK => ?_) AllReadyIn.nil;go_simp;refine hK _ _ ?_;refine wpAnyIn_ready (rs:=[4]) (by kernel_rfl) (by simp) ?_;refine AllReadyIn.cons rfl (fun K hK => ?_) AllReadyIn.nil;go_simp;refine hK _ _ ?_;exact hvia _ hB3
     go_simp;refine hK _ _ ?_;refine wpAnyIn_ready (rs:=[0,4]) (by kernel_rfl) (by simp) ?_;refine AllReadyIn.cons rfl (fun K hK => ?_) (AllReadyIn.cons rfl (fun K hK => ?_) AllReadyIn.nil)
     ·go_simp;refine hK _ _ ?_;refine wpAnyIn_ready (rs:=[4]) (by kernel_rfl) (by simp) ?_;refine AllReadyIn.cons rfl (fun K hK => ?_) AllReadyIn.nil;go_simp;refine hK _ _ ?_;exact hvia _ hB3
     go_simp;refine hK _ _ ?_;refine wpAnyIn_ready (rs:=[0]) (by kernel_rfl) (by simp) ?_;refine AllReadyIn.cons rfl (fun K hK => ?_) AllReadyIn.nil;have c44:(w3.alloc (.cells #[.int .i64 3,.string x.1] 235)).cell? ⟨w.heap.size+1+1,0,none⟩=some (.slice ao3 pre.length cap3):=(World.cell?_alloc_some w3 _ _ (by rw[c43];rfl)).trans c43;go_simp;refine hK _ _ ?_;exact hvia _ hB3
  case done =>
   intro D xs W hD hS hI hK;obtain⟨ao,cap,ys,hp,ho,HYE⟩:=hI.pat;have HO:=qaa ho;have HI:=qaa hI;have HS:=qaa hS;have HK:=qaa hK;have c4:W.cell? ⟨w.heap.size+1+1,0,none⟩=some (.slice ao xs.length cap):=hp.cell;have c2:=hI.r0.cell;have f2:=hI.r0.frozen;have c3:=hI.r1.cell;have f3:=hI.r1.frozen
   gi_wp2
   refine qbU ?_;have hy:=qtY HD.out HS.out HI.out.le HI.out.all;have t1:=Tr.set w.heap.size (w.heap.size+3) W w.heap.size (.slice ao xs.length cap) (Nat.le_refl _) (by omega);have t2:=Tr.set w.heap.size (w.heap.size+3) (W.setCell ⟨w.heap.size,0,none⟩ (.slice ao xs.length cap)) (w.heap.size+1) (.bool true) (by omega) (by omega);have b0:Boxed ((W.setCell ⟨w.heap.size,0,none⟩ (.slice ao xs.length cap)).setCell ⟨w.heap.size+1,0,none⟩ (.bool true)) w.heap.size 228 (.slice ao xs.length cap):=(HI.out.r0.set _).kept (grownBy_setCell' _ _ _) (by intro e;injection e with e;omega);have b1:Boxed ((W.setCell ⟨w.heap.size,0,none⟩ (.slice ao xs.length cap)).setCell ⟨w.heap.size+1,0,none⟩ (.bool true)) (w.heap.size+1) 4 (.bool true):=Boxed.set _ (HI.out.r1.kept (grownBy_setCell' _ _ _) (by intro e;injection e with e;omega));have hb:=HI.out.below.trans (t1.trans t2).below;have hK:=(t1.trans t2).keep.same D _ HK.out rfl;have HC:Hid (∀j,w.heap.size+6≤j→((W.setCell ⟨w.heap.size,0,none⟩ (.slice ao xs.length cap)).setCell ⟨w.heap.size+1,0,none⟩ (.bool true)).heap[j]? = W.heap[j]?):=fun j hj=>(Below.heap_setCell _ _ _ _ (by simp;omega)).trans (Below.heap_setCell _ _ _ _ (by simp;omega));generalize (W.setCell ⟨w.heap.size,0,none⟩ (.slice ao xs.length cap)).setCell ⟨w.heap.size+1,0,none⟩ (.bool true)=V at *;refine⟨by simp,.inl ⟨D,_,rfl,run_takeDeferred hK,?_⟩⟩;have e0:=(b0.kept (grownBy_putObj' V D (.deferred none)) (by intro e;injection e with e;omega)).cell;have e1:=(b1.kept (grownBy_putObj' V D (.deferred none)) (by intro e;injection e with e;omega)).cell;refine⟨.tuple #[.slice ao xs.length cap,.bool true],?_,⟨ao,xs.length,cap,by rw[hy],qbs hb (by omega) _,fun _ => ?_⟩⟩
   ·simp[results,f185,go_sem,e0,e1]
   exact qtF HD.out HS.out HO.out HYE.out HK.out HC.out
  case stop =>
   intro D c pre W hD hS hX hK;obtain rfl:=hX.ret
   gi_wp2
   refine qbU ?_;have hy:qe8 s.data.toList=false:=by
    obtain⟨r,hr⟩:=hS;exact qwp HD.out hr hX.bad
   refine⟨by simp,.inl ⟨D,_,rfl,run_takeDeferred hK,?_⟩⟩;have e0:=(hX.r0.kept (grownBy_putObj' W D (.deferred none)) (by intro e;injection e with e;omega)).cell;have e1:=(hX.r1.kept (grownBy_putObj' W D (.deferred none)) (by intro e;injection e with e;omega)).cell;refine⟨.tuple #[.slice none 0 0,.bool false],?_,⟨none,0,0,by rw[hy],qbs hX.below (by omega) _,fun e=>by rw[hy] at e;cases e⟩⟩;simp[results,f185,go_sem,e0,e1]
 have hy:qe8 s.data.toList=true:=by unfold qe8;rw[←Lib.toList_data,hd];rfl
 have HY:=qaa hy;refine(callsIn_wide (n:=10)).1 ?_;refine callsIn_of_wp_marks func185 rfl trivial ?_ rfl;simp only[ntmps185,List.size_toArray,List.length_cons,List.length_nil,Nat.reduceAdd,Nat.reduceSub,Array.replicate_succ,Array.replicate_zero,List.push_toArray,List.append_toArray,List.nil_append,List.cons_append]
 gi_wp2
 refine wpIn_wide.2 (wp_scope_straight ((wpIn_wide (n:=10)).1 ?_))
 gi_wp2
 repeat (first|refine qf1 ?_|refine qbU ?_)
 have e0:((w.alloc (.cells #[.slice none 0 0] 228)).alloc (.cells #[.bool true] 4)).cell? ⟨w.heap.size,0,none⟩=some (.slice none 0 0):=((Boxed.new w 228 (.slice none 0 0)).alloc _).cell;have e1:((w.alloc (.cells #[.slice none 0 0] 228)).alloc (.cells #[.bool true] 4)).cell? ⟨w.heap.size+1,0,none⟩=some (.bool true):=by
  have:=(Boxed.new (w.alloc (.cells #[.slice none 0 0] 228)) 4 (.bool true)).cell;rwa [World.size_alloc] at this
 refine⟨.tuple #[.slice none 0 0,.bool true],?_,⟨none,0,0,by rw[HY.out],?_,fun _ => ?_⟩⟩
 ·simp[results,f185,go_sem,e0,e1]
 ·exact(bwA).alloc (by simp) _
 have hp:qiL s.data.toList=[]:=by unfold qiL;rw[←Lib.toList_data,hd];rfl
 rw[hp];exact⟨rfl,.inl rfl⟩
end
end
end Go.Proofs.YtllcbnfmihfaaaaGreatDoor
