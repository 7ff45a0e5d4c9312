import Derived.Test.YtllcbnfmihfaaaaGreatDoorShelf
import Derived.Lib.RuneBytes
import Derived.Test.YtllcbnfmihfaaaaGreatDoorTq07
import Derived.Test.YtllcbnfmihfaaaaGreatDoorTq03
set_option maxRecDepth 100000
set_option maxHeartbeats 8000000
namespace Go.Proofs.YtllcbnfmihfaaaaGreatDoor
open Go.Proofs.Tryz
variable {b:UInt8}{V W W' w w5:World}{b0 base c cap cap5 g j k n off p wh:Nat}{a:Option Addr}{u v:Value}{bs:List UInt8}
section
open Go.RowKit Go.Lib
def szU (b:UInt8):Nat:=firstT b.toNat%8
def loU (b:UInt8):Nat:=accLo (firstT b.toNat / 16)
def hiU (b:UInt8):Nat:=accHi (firstT b.toNat / 16)
def qst:List UInt8→Bool
 |[]=>true
 |[b0]=>decide (2≤szU b0)
 |[b0,b1]=>decide (3≤szU b0∧loU b0≤b1.toNat∧b1.toNat≤hiU b0)
 |[b0,b1,b2]=>decide (4≤szU b0∧(loU b0≤b1.toNat∧b1.toNat≤hiU b0)∧128≤b2.toNat∧b2.toNat≤191)
 |_=>false
def qc1 (l:List UInt8)(b:UInt8):Nat:=match l with
 |[]=>if szU b=0 then 2 else if szU b=1 then 0 else 1
 |[b0]=>if b.toNat<loU b0∨hiU b0<b.toNat then 0 else if szU b0=2 then 2 else 1
 |[b0,_]=>if b.toNat<128∨191<b.toNat then 0 else if szU b0=3 then 2 else 1
 |_=>if b.toNat<128∨191<b.toNat then 0 else 2
theorem qjB (b:UInt8):(szU b=0∧firstT b.toNat=240∧b.toNat<128)∨(szU b=1∧firstT b.toNat=241∧128≤b.toNat)∨(2≤szU b∧szU b≤4∧firstT b.toNat<240∧128≤b.toNat):=by
 unfold szU;have hf:=firstT_cases b.toNat;have h1:b.toNat<128→firstT b.toNat=240:=fun h=>by unfold firstT;rw[if_pos h]
 have h2:128≤b.toNat→firstT b.toNat≠240:=fun h=>by
  unfold firstT;rw[if_neg (by omega)]
  repeat' split
  all_goals decide
 by_cases hb:b.toNat<128
 ·left;have:=h1 hb;exact⟨by rw[this],this,hb⟩
 have h3:=h2 (by omega);rcases hf with h|h|h|h|h|h|h|h|h
 ·exact absurd h h3
 ·right;left;exact⟨by rw[h],h,by omega⟩
 all_goals (right;right;rw[h];exact⟨by decide,by decide,by decide,by omega⟩)
theorem qhF (h:2≤szU b):szU b≤4∧firstT b.toNat<240∧128≤b.toNat:=by
 rcases qjB b with h1|h1|h1
 ·omega
 ·omega
 exact h1.2
theorem qrU (b:UInt8):qgl b.toNat (firstT b.toNat) (szU b) (firstT b.toNat / 16) (loU b) (hiU b):=qtH _ _ rfl (by
 rcases firstT_cases b.toNat with h|h|h|h|h|h|h|h|h<;>rw[h]<;>decide)
def qbq (V:World)(g off n cap:Nat)(r:Bool):Prop:=Calls prog 315 #[.slice (some ⟨g,off,none⟩) n cap] V fun e W'=>e=.returned (.bool r)∧Below V.heap.size V W'
def qdp (V:World)(g off n cap:Nat)(bad:Bool):Prop:=Calls prog 316 #[.slice (some ⟨g,off,none⟩) n cap] V fun e W'=>∃ch sz,e=.returned (.tuple #[.int .i32 ch,.int .i64 sz])∧(ch==65533&&sz==1)=bad∧Below V.heap.size V W'
theorem qdc (h:Calls prog 315 #[.slice (some ⟨g,off,none⟩) n cap] V fun e W'=>e=.returned (.bool true)∧W'=V):qbq V g off n cap true :=
 h.mono fun _ _ ⟨he,hw⟩=>⟨he,hw▸Below.refl _ _⟩
theorem qcc (hb:128≤b0)(hn:1≤n)(h0:V.cell? ⟨g,off,none⟩=some (.int .u8 b0))(h:Calls prog 323 #[.slice (some ⟨g,off,none⟩) n cap] V fun e W'=>e=.returned (.tuple #[.int .i32 65533,.int .i64 1])∧Below V.heap.size V W'):qdp V g off n cap true :=
 qde V g off cap n b0 hb hn h0 (fun ch sz W'=>(ch==65533&&sz==1)=true∧Below V.heap.size V W') (h.mono fun _ _ ⟨he,hB⟩=>⟨65533,1,he,by decide,hB⟩)
theorem qtv (hk:2≤k)(ch:Int):(ch==65533&&(k:Int)==1)=false:=by
 have:((k:Int)==1)=false:=by simp;omega
 rw[this,Bool.and_false]
theorem qoi (hk:2≤k)(hb:128≤b0)(hn:1≤n)(h0:V.cell? ⟨g,off,none⟩=some (.int .u8 b0))(h:Calls prog 323 #[.slice (some ⟨g,off,none⟩) n cap] V fun e W'=>(∃ch,e=.returned (.tuple #[.int .i32 ch,.int .i64 k]))∧Below V.heap.size V W'):qdp V g off n cap false :=
 qde V g off cap n b0 hb hn h0 (fun ch sz W'=>(ch==65533&&sz==1)=false∧Below V.heap.size V W') (h.mono fun _ _ ⟨⟨ch,he⟩,hB⟩=>⟨ch,k,he,qtv hk ch,hB⟩)
theorem qrd (g off cap:Nat)(l:List UInt8)(b:UInt8)(hp:qst l=true)(V:World)(hc:∀i (hi:i<(l++[b]).length),V.cell? ⟨g,off+i,none⟩=some (.int .u8 ((l++[b])[i]'hi).toNat))(ht:U8 V):(qc1 l b=1→qbq V g off (l.length+1) cap false)∧(qc1 l b=0→qbq V g off (l.length+1) cap true∧qdp V g off (l.length+1) cap true)∧(qc1 l b=2→qbq V g off (l.length+1) cap true∧qdp V g off (l.length+1) cap false):=by
 match l,hp with
 |[],_ =>
  have h0:V.cell? ⟨g,off,none⟩=some (.int .u8 b.toNat):=hc 0 (by simp);have hL:=qrU b;have hb:=b.toNat_lt;unfold qc1;rcases qjB b with ⟨s1,s2,s3⟩|⟨s1,s2,s3⟩|⟨s1,s2,s3,s4⟩
  ·rw[if_pos s1];refine⟨by simp,by simp,fun _=>⟨qdc (qbK V g off 1 cap _ _ _ _ _ _ hL hb (by decide) (by omega) (by decide) h0 ht),?_⟩⟩;refine(qff V g off cap 1 b.toNat s3 (by decide) h0).mono fun _ _ ⟨he,hw⟩=>⟨b.toNat,1,he,?_,hw▸Below.refl _ _⟩
   have:((b.toNat:Int)==65533)=false:=by simp;omega
   rw[this,Bool.false_and]
  ·rw[if_neg (by omega),if_pos s1];refine⟨by simp,fun _=>⟨qdc (qbK V g off 1 cap _ _ _ _ _ _ hL hb (by decide) (by omega) (by decide) h0 ht),?_⟩,by simp⟩;exact qcc s3 (Nat.le_add_left _ _) h0 ((qoB V g off cap 1 _ s2 hb (by decide) h0 ht).mono fun _ _ ⟨he,hw⟩=>⟨he,hw▸Below.refl _ _⟩)
  rw[if_neg (by omega),if_neg (by omega)];exact⟨fun _=>qiR V g off cap _ _ _ _ _ _ hL hb (by omega) h0 ht,by simp,by simp⟩
 |[b0],hp =>
  have h0:V.cell? ⟨g,off,none⟩=some (.int .u8 b0.toNat):=hc 0 (by simp);have h1:V.cell? ⟨g,off+1,none⟩=some (.int .u8 b.toNat):=hc 1 (by simp);have hL:=qrU b0;have hb:=b0.toNat_lt;have hs:=of_decide_eq_true hp;obtain⟨s2,s3,s4⟩:=qhF hs;have y:szU b0=2→qbq V g off 2 cap true:=fun e=>qdc (qbK V g off 2 cap _ _ _ _ _ _ hL hb (by decide) (by omega) (by decide) h0 ht);unfold qc1;simp only[];by_cases q1:b.toNat<loU b0
  ·rw[if_pos (.inl q1)];refine⟨by simp,fun _ => ?_,by simp⟩;by_cases e2:szU b0=2
   ·exact⟨y e2,qcc s4 (Nat.le_add_left _ _) h0 (qq4 V g off cap _ _ _ _ _ _ _ hL hb s3 h0 h1 ht e2 q1)⟩
   exact⟨qk7 V g off cap _ _ _ _ _ _ _ hL hb (by omega) h0 h1 ht q1,qcc s4 (Nat.le_add_left _ _) h0 (qd0 V g off cap 2 _ _ _ _ _ _ hL hb s3 h0 ht (by decide) (by omega))⟩
  by_cases q2:hiU b0<b.toNat
  ·rw[if_pos (.inr q2)];refine⟨by simp,fun _ => ?_,by simp⟩;by_cases e2:szU b0=2
   ·exact⟨y e2,qcc s4 (Nat.le_add_left _ _) h0 (qrJ V g off cap _ _ _ _ _ _ _ hL hb s3 h0 h1 ht e2 q1 q2)⟩
   exact⟨qk8 V g off cap _ _ _ _ _ _ _ hL hb (by omega) h0 h1 ht q1 q2,qcc s4 (Nat.le_add_left _ _) h0 (qd0 V g off cap 2 _ _ _ _ _ _ hL hb s3 h0 ht (by decide) (by omega))⟩
  rw[if_neg (by omega)];by_cases e2:szU b0=2
  ·rw[if_pos e2];exact⟨by simp,by simp,fun _=>⟨y e2,qoi (by decide) s4 (Nat.le_add_left _ _) h0 (qrw V g off cap _ _ _ _ _ _ _ hL hb s3 h0 h1 ht e2 q1 q2)⟩⟩
  rw[if_neg e2];exact⟨fun _=>qjT V g off cap _ _ _ _ _ _ _ hL hb (by omega) h0 h1 ht q1 q2,by simp,by simp⟩
 |[b0,b1],hp =>
  have h0:V.cell? ⟨g,off,none⟩=some (.int .u8 b0.toNat):=hc 0 (by simp);have h1:V.cell? ⟨g,off+1,none⟩=some (.int .u8 b1.toNat):=hc 1 (by simp);have h2:V.cell? ⟨g,off+2,none⟩=some (.int .u8 b.toNat):=hc 2 (by simp);have hL:=qrU b0;have hb:=b0.toNat_lt;obtain⟨hs,hq1,hq2⟩:=of_decide_eq_true hp;obtain⟨s2,s3,s4⟩:=qhF (b:=b0) (by omega);have p1:¬b1.toNat<loU b0:=by omega
  have p2:¬hiU b0<b1.toNat:=by omega
  have y:szU b0=3→qbq V g off 3 cap true:=fun e=>qdc (qbK V g off 3 cap _ _ _ _ _ _ hL hb (by decide) (by omega) (by decide) h0 ht);unfold qc1;simp only[];by_cases q1:b.toNat<128
  ·rw[if_pos (.inl q1)];refine⟨by simp,fun _ => ?_,by simp⟩;by_cases e2:szU b0=3
   ·exact⟨y e2,qcc s4 (Nat.le_add_left _ _) h0 (qqM V g off cap _ _ _ _ _ _ _ _ hL hb s3 h0 h1 h2 ht e2 p1 p2 q1)⟩
   exact⟨qjj V g off cap _ _ _ _ _ _ _ _ hL hb (by omega) h0 h1 h2 ht p1 p2 q1,qcc s4 (Nat.le_add_left _ _) h0 (qd0 V g off cap 3 _ _ _ _ _ _ hL hb s3 h0 ht (by decide) (by omega))⟩
  by_cases q2:191<b.toNat
  ·rw[if_pos (.inr q2)];refine⟨by simp,fun _ => ?_,by simp⟩;by_cases e2:szU b0=3
   ·exact⟨y e2,qcc s4 (Nat.le_add_left _ _) h0 (qq9 V g off cap _ _ _ _ _ _ _ _ hL hb s3 h0 h1 h2 ht e2 p1 p2 q2)⟩
   exact⟨qj5 V g off cap _ _ _ _ _ _ _ _ hL hb (by omega) h0 h1 h2 ht p1 p2 q1 q2,qcc s4 (Nat.le_add_left _ _) h0 (qd0 V g off cap 3 _ _ _ _ _ _ hL hb s3 h0 ht (by decide) (by omega))⟩
  rw[if_neg (by omega)];by_cases e2:szU b0=3
  ·rw[if_pos e2];exact⟨by simp,by simp,fun _=>⟨y e2,qoi (by decide) s4 (Nat.le_add_left _ _) h0 (qq1 V g off cap _ _ _ _ _ _ _ _ hL hb s3 h0 h1 h2 ht e2 p1 p2 (by omega) (by omega))⟩⟩
  rw[if_neg e2];exact⟨fun _=>qj8 V g off cap _ _ _ _ _ _ _ _ hL hb (by omega) h0 h1 h2 ht p1 p2 q1 q2,by simp,by simp⟩
 |[b0,b1,b2],hp =>
  have h0:V.cell? ⟨g,off,none⟩=some (.int .u8 b0.toNat):=hc 0 (by simp);have h1:V.cell? ⟨g,off+1,none⟩=some (.int .u8 b1.toNat):=hc 1 (by simp);have h2:V.cell? ⟨g,off+2,none⟩=some (.int .u8 b2.toNat):=hc 2 (by simp);have h3:V.cell? ⟨g,off+3,none⟩=some (.int .u8 b.toNat):=hc 3 (by simp);have hL:=qrU b0;have hb:=b0.toNat_lt;obtain⟨hs,⟨hq1,hq2⟩,hr1,hr2⟩:=of_decide_eq_true hp;obtain⟨s2,s3,s4⟩:=qhF (b:=b0) (by omega);have e4:szU b0=4:=by omega
  have p1:¬b1.toNat<loU b0:=by omega
  have p2:¬hiU b0<b1.toNat:=by omega
  have y:=qdc (qbK V g off 4 cap _ _ _ _ _ _ hL hb (by decide) (by omega) (by decide) h0 ht);unfold qc1;simp only[];by_cases q1:b.toNat<128
  ·rw[if_pos (.inl q1)];exact⟨by simp,fun _=>⟨y,qcc s4 (Nat.le_add_left _ _) h0 (qqE V g off cap _ _ _ _ _ _ _ _ _ hL hb s3 h0 h1 h2 h3 ht e4 p1 p2 hr1 hr2 q1)⟩,by simp⟩
  by_cases q2:191<b.toNat
  ·rw[if_pos (.inr q2)];exact⟨by simp,fun _=>⟨y,qcc s4 (Nat.le_add_left _ _) h0 (qrn V g off cap _ _ _ _ _ _ _ _ _ hL hb s3 h0 h1 h2 h3 ht e4 p1 p2 hr1 hr2 q2)⟩,by simp⟩
  rw[if_neg (by omega)];exact⟨by simp,by simp,fun _=>⟨y,qoi (by decide) s4 (Nat.le_add_left _ _) h0 (qqR V g off cap _ _ _ _ _ _ _ _ _ hL hb s3 h0 h1 h2 h3 ht e4 p1 p2 hr1 hr2 (by omega) (by omega))⟩⟩
structure qck (W:World)(p base:Nat)(bs:List UInt8)(wh:Nat):Prop where
 row:∃v,W.heap[p]? = some (.cells #[v,.int .i64 wh] 409)∧Own W base v bs
 lt:p<base
 le:wh≤bs.length
structure qcH (p base:Nat)(W W':World):Prop where
 os:W'.os=W.os
 tape:W'.tape=W.tape
 output:W'.output=W.output
 size:W.heap.size≤W'.heap.size
 block:∀k,k<base→k≠p→W'.heap[k]? = W.heap[k]?
theorem qcH.refl (p base:Nat)(W:World):qcH p base W W:=⟨rfl,rfl,rfl,Nat.le_refl _,fun _ _ _=>rfl⟩
theorem qcH.trans {a b c:World}(h:qcH p base a b)(h':qcH p base b c):qcH p base a c :=
 ⟨h'.os.trans h.os,h'.tape.trans h.tape,h'.output.trans h.output,Nat.le_trans h.size h'.size,fun k hk hn=>(h'.block k hk hn).trans (h.block k hk hn)⟩
theorem qcH.of_below (h:Below W.heap.size W W')(hb:base≤W.heap.size):qcH p base W W' :=
 ⟨h.os,h.tape,h.output,h.size,fun k hk _=>h.block k (by omega)⟩
theorem qdr {a b:Value}{t:TypeId}(hg:w.heap[g]? = some (.cells #[a,b] t)):(w.setCell ⟨g,0,none⟩ v).heap[g]? = some (.cells #[v,b] t)∧(w.setCell ⟨g,1,none⟩ v).heap[g]? = some (.cells #[a,v] t):=by
 constructor
 ·rw[setCell_eq_setRow w g 0 _ _ _ v hg,setRow_heap _ _ _ _ _ _ hg];rfl
 rw[setCell_eq_setRow w g 1 _ _ _ v hg,setRow_heap _ _ _ _ _ _ hg];rfl
theorem qeZ:qcH p base w (w.setCell ⟨p,j,none⟩ v) :=
 ⟨rfl,rfl,rfl,by simp[World.setCell],fun k _ hn=>heap_setCell_other _ _ _ _ (by simpa using hn)⟩
theorem qdS (h:Own w base v bs)(hp:p<base):Own (w.setCell ⟨p,j,none⟩ u) base v bs:=by
 obtain⟨⟨h1,h2⟩,h3,h4⟩:=h;refine⟨⟨h1,?_⟩,by simpa [World.setCell] using h3,h4⟩;rcases h2 with h2|⟨g,cap,cur,e,hb,hg,h5⟩
 ·exact .inl h2
 exact .inr ⟨g,cap,cur,e,hb,(heap_setCell_other _ _ _ _ (by simp;omega)).trans hg,h5⟩
theorem qck.same (h:qck W p base bs wh)(hk:∀k,k<W.heap.size→k=p∨base≤k→W'.heap[k]? = W.heap[k]?)(hs:W.heap.size≤W'.heap.size):qck W' p base bs wh:=by
 obtain⟨v,hr,⟨h1,h2⟩,h3,h4⟩:=h.row;refine⟨⟨v,(hk p (ltA hr) (.inl rfl)).trans hr,⟨h1,?_⟩,by omega,h4⟩,h.lt,h.le⟩;rcases h2 with h2|⟨g,cap,cur,e,hb,hg,h5⟩
 ·exact .inl h2
 exact .inr ⟨g,cap,cur,e,hb,(hk g (ltA hg) (.inr hb)).trans hg,h5⟩
theorem qck.below (h:qck W p base bs wh)(hb:Below W.heap.size W W'):qck W' p base bs wh:=h.same (fun k hk _=>hb.block k hk) hb.size
theorem qck.but {b:Nat}(h:qck W p base bs wh)(hb:But b W W')(hn:b<base)(hp:b≠p):qck W' p base bs wh:=h.same (fun k hk ho=>hb.block k hk (by rcases ho with ho|ho<;>omega)) hb.size
theorem qgq (W:World)(p base:Nat)(bs:List UInt8)(wh:Nat)(h:qck W p base bs wh):Calls prog 305 #[.pointer (some ⟨p,0,none⟩)] W fun e W'=>e=.returned (.bool (decide (wh=bs.length)))∧Below W.heap.size W W':=by
 obtain⟨v,hr,⟨h1,h2⟩,_,a,n,c,rfl⟩:=h.row;have hn:n=bs.length:=by
  rcases h2 with ⟨h2,h3⟩|⟨g,cap,cur,e,_⟩
  ·cases h2;exact h3.symm
  cases e;rfl
 subst hn;have k0:=qab hr 0;have k1:=qab hr 1;have HR:Hid (((wh:Int)==(bs.length:Int))=decide (wh=bs.length)):=by
  show _=_;by_cases e:wh=bs.length
  ·simp[e]
  simp[e];omega
 go_enter func305,ntmps305;go_wp2
 go_quiet (fail)
 go_wp2;go_ret;refine⟨?_,qam W nq⟩;show Ending.returned (.bool _)=_;rw[HR.out]
theorem qcB (h:Own W base (.slice (some ⟨g,0,none⟩) n cap) bs):(n=bs.length∧bs.length≤cap∧cap≤maxLen∧base≤g)∧∀j (hj:j<bs.length),W.cell? ⟨g,j,none⟩=some (.int .u8 ((bs[j]'hj).toNat:Int)):=by
 obtain⟨⟨h1,h2⟩,_,_⟩:=h;rcases h2 with ⟨h2,_⟩|⟨g',cap',cur,e,hb,hg,h5,h6,h7,h8⟩
 ·cases h2
 cases e;refine⟨⟨rfl,h5,h6,hb⟩,fun j hj => ?_⟩;rw[qab hg j,←Array.getElem?_toList];have h9:=congrArg (fun l=>l[j]?) h8;simp only[Nat.mul_one] at h9;rw[List.getElem?_take_of_lt hj,List.getElem?_map,List.getElem?_eq_getElem hj] at h9;exact h9
theorem U8.keep (h:U8 W)(hk:qcH p base W V)(h7:7<p)(hp:p<base):U8 V:=by
 have hc:∀(g off:Nat) (v:Value),g≤7→W.cell? ⟨g,off,none⟩=some v→V.cell? ⟨g,off,none⟩=some v:=fun g off v hg hv=>(World.cell?_of_block (w:=W) (hk.block g (by omega) (by omega))).trans hv;exact⟨fun c hc'=>hc _ _ _ (by decide) (h.1 c hc'),fun i hi=>⟨hc _ _ _ (by decide) (h.2 i hi).1,hc _ _ _ (by decide) (h.2 i hi).2⟩⟩
theorem qj9 (h:qck W p base bs wh):qck (W.setCell ⟨p,1,none⟩ (.int .i64 bs.length)) p base bs bs.length:=by
 obtain⟨v,hr,ho⟩:=h.row;exact⟨⟨v,(qdr hr).2,qdS ho h.lt⟩,h.lt,Nat.le_refl _⟩
structure qxt (W:World)(p base g cap:Nat)(bs:List UInt8)(wh:Nat)(V:World):Prop where
 keep:qcH p base W V
 gat:qck V p base bs wh
 row:V.heap[p]? = some (.cells #[.slice (some ⟨g,0,none⟩) bs.length cap,.int .i64 wh] 409)
 cells:∀j (hj:j<bs.length),V.cell? ⟨g,j,none⟩=some (.int .u8 ((bs[j]'hj).toNat:Int))
 cap:bs.length≤cap∧cap≤maxLen
theorem qx4 (hb:base≤W.heap.size)(hlt:p<base)(hle:wh≤bs.length)(hO:W.ownsRow base 5 1 (.slice a n c) bs.length (bs.map qav))(hu:qav b=u)(hown':w5.ownsRow base 5 1 (.slice (some ⟨g,0,none⟩) (bs.length+1) cap5) (bs.length+1) (bs.map qav++[u]))(hgrow5:(W.alloc (.cells #[u] 5)).grownBy w5 (Value.slice a n c).ownBlock)(HR5:w5.heap[p]? = some (.cells #[.slice a n c,.int .i64 wh] 409)):qxt W p base g cap5 (bs++[b]) wh (w5.setCell ⟨p,0,none⟩ (.slice (some ⟨g,0,none⟩) (bs.length+1) cap5)):=by
 have hB:=qaz ((Below.refl base W).alloc hb _) (hO.alloc _) hgrow5 (by simp;omega);have o5:Own w5 base (.slice (some ⟨g,0,none⟩) (bs.length+1) cap5) (bs++[b]):=⟨qbG hown' hu,by have:=hB.size;omega,_,_,_,rfl⟩
 obtain⟨⟨c1,c2,c3,c4⟩,cs⟩:=qcB o5;have o6:=qdS (p:=p) (j:=0) (u:=.slice (some ⟨g,0,none⟩) (bs.length+1) cap5) o5 hlt;have hlen:(bs++[b]).length=bs.length+1:=by simp
 have r6:=(qdr (v:=.slice (some ⟨g,0,none⟩) (bs.length+1) cap5) HR5).1;refine⟨⟨hB.os,hB.tape,hB.output,by simpa [World.setCell] using hB.size,fun k hk hn=>(heap_setCell_other _ _ _ _ (by simpa using hn)).trans (hB.block k hk)⟩,⟨⟨_,r6,o6⟩,hlt,by omega⟩,by rw[hlen];exact r6,(qcB o6).2,⟨c2,c3⟩⟩
theorem qp8 (W:World)(p base:Nat)(bs:List UInt8)(wh:Nat)(b:UInt8)(h:qck W p base bs wh)(hp:qst (bs.drop wh)=true)(ht:U8 W)(h7:7<p)(hl:bs.length≤999999999):Calls prog 308 #[.pointer (some ⟨p,0,none⟩),.int .u8 b.toNat] W fun e W'=>e=.returned (.bool (qc1 (bs.drop wh) b != 0))∧qcH p base W W'∧qck W' p base (bs++[b]) (if qc1 (bs.drop wh) b=2 then bs.length+1 else wh):=by
 obtain⟨rb,HRB⟩:∃rb,Hid ((qc1 (bs.drop wh) b != 0)=rb):=⟨_,show _=_ from rfl⟩
 obtain⟨wf,HWF⟩:∃wf,Hid ((if qc1 (bs.drop wh) b=2 then bs.length+1 else wh)=wf):=⟨_,show _=_ from rfl⟩
 rw[HRB.out,HWF.out];obtain⟨i0,hi,hz0,hz1,hz2⟩:=info_parts Tryz.infoU8;obtain⟨v,hr,ho,hb,a,n,c,rfl⟩:=h.row;have hlt:=h.lt;have hle:=h.le;have hn:n=bs.length:=by
  rcases ho.2 with ⟨h2,h3⟩|⟨g,cap,cur,e,_⟩
  ·cases h2;exact h3.symm
  cases e;rfl
 subst hn;have HO:=qaa ho;have HR:=qaa hr;have HT:=qaa ht;have k0:=qab hr 0;go_enter func308,ntmps308
 go_wp2_with (first
  |(at_builtin;refine wpList_append_own _ rfl _ _ 28 rfl base 5 i0 (.int .u8 0) 1 1 underlying28 hi hz0 hz1 hz2 rfl (by decide) _ _ _ rfl (HO.out.alloc _) ⟨W.heap.size,0,none⟩ 1 1 [.int .u8 b.toNat] rfl rfl (qag _ _ _) (fun u hu=>by simp at hu;subst hu;rfl) (by unfold maxLen;omega) (by omega) (by simp;omega) ?_;intro v' w5 hown' hgrow5 hnil5;obtain⟨g5,cap5,rfl⟩:=ownsRow_succ hown';have HR5:=qaa ((hgrow5.block p (by have:=ltA HR.out;simp;omega) (fun e=>by have:=qbA HO.out e.symm;omega)).trans ((Below.heap_alloc _ _ _ (ltA HR.out)).trans HR.out));have k0:=qab HR5.out 0;have f0:=frozen_of_row w5 p 0 _ _ HR5.out))
 have H6:=qaa (qx4 hb hlt hle HO.out rfl hown' hgrow5 HR5.out);generalize w5.setCell ⟨p,0,none⟩ (.slice (some ⟨g5,0,none⟩) (bs.length+1) cap5)=V at *;have k0:=qab H6.out.row 0;have k1:=qab H6.out.row 1;have f1:=frozen_of_row V p 1 _ _ H6.out.row;have hlen:(bs++[b]).length=bs.length+1:=by simp
 rw[hlen] at k0 k1;have hcap:=H6.out.cap;rw[hlen] at hcap;have hcap1:=hcap.1;have hcap2:=hcap.2;unfold maxLen at hcap2;have hlen2:(bs.drop wh).length+1=bs.length+1-wh:=by rw[List.length_drop];omega
 have FD:Hid (∀X,Below V.heap.size V X→(qc1 (bs.drop wh) b=1→qbq X g5 wh (bs.length+1-wh) (cap5-wh) false)∧(qc1 (bs.drop wh) b=0→qbq X g5 wh (bs.length+1-wh) (cap5-wh) true∧qdp X g5 wh (bs.length+1-wh) (cap5-wh) true)∧(qc1 (bs.drop wh) b=2→qbq X g5 wh (bs.length+1-wh) (cap5-wh) true∧qdp X g5 wh (bs.length+1-wh) (cap5-wh) false)):=by
  show ∀X,_;intro X hX;have hdr:(bs++[b]).drop wh=bs.drop wh++[b]:=List.drop_append_of_le_length hle;have:=qrd g5 wh (cap5-wh) (bs.drop wh) b hp X (fun i hi=>by
   have hi2:wh+i<(bs++[b]).length:=by
    rw[←hdr,List.length_drop] at hi;omega
   have hc:=H6.out.cells (wh+i) hi2;have e:(bs.drop wh++[b])[i]'hi=(bs++[b])[wh+i]'hi2:=by
    simp only[←hdr,List.getElem_drop]
   rw[e];exact(hX.cell (p:=⟨g5,wh+i,none⟩) (block_lt_of_cell hc)).trans hc) ((HT.out.keep H6.out.keep h7 hlt).below hX)
  rw[hlen2] at this;exact this
 have hk2:qc1 (bs.drop wh) b=0∨qc1 (bs.drop wh) b=1∨qc1 (bs.drop wh) b=2:=by
  unfold qc1
  repeat' split
  all_goals simp
 have HBV:=qaa (Nat.le_trans hb H6.out.keep.size)
 go_quiet (fail)
 have HQ:=qaa (qam V nq);rcases hk2 with h0|h1|h2
 ·have HE1:Hid (rb=false):=by show _=_;rw[←HRB.out,h0];rfl
  have HE2:Hid (wf=wh):=by show _=_;rw[←HWF.out,h0];rfl
  have cF:=((FD.out _ HQ.out).2.1 h0).1;have cD:=fun X hX=>((FD.out X hX).2.1 h0).2;unfold qbq at cF;unfold qdp at cD
  go_wp2_with (first
   |(go_at_call 315;refine cF.mono ?_;rintro e w7 ⟨rfl,hB7⟩;have HB7:=qaa (HQ.out.trans (hB7.mono HQ.out.size));have cD1:=cD w7 HB7.out)
   |(go_at_call 316;refine cD1.mono ?_;rintro e w8 ⟨ch,sz,rfl,hbad,hB8⟩;have HB8:=qaa (HB7.out.trans (hB8.mono HB7.out.size));rw[Bool.and_eq_true] at hbad;obtain⟨hc1,hc2⟩:=hbad))
  go_ret;rw[HE1.out,HE2.out];exact⟨rfl,H6.out.keep.trans (qcH.of_below HB8.out HBV.out),H6.out.gat.below HB8.out⟩
 ·have HE1:Hid (rb=true):=by show _=_;rw[←HRB.out,h1];rfl
  have HE2:Hid (wf=wh):=by show _=_;rw[←HWF.out,h1];rfl
  have cF:=(FD.out _ HQ.out).1 h1;unfold qbq at cF
  go_wp2_with (first
   |(go_at_call 315;refine cF.mono ?_;rintro e w7 ⟨rfl,hB7⟩;have HB7:=qaa (HQ.out.trans (hB7.mono HQ.out.size))))
  go_ret;rw[HE1.out,HE2.out];exact⟨rfl,H6.out.keep.trans (qcH.of_below HB7.out HBV.out),H6.out.gat.below HB7.out⟩
 have HE1:Hid (rb=true):=by show _=_;rw[←HRB.out,h2];rfl
 have HE2:Hid (wf=bs.length+1):=by show _=_;rw[←HWF.out,h2];rfl
 have cF:=((FD.out _ HQ.out).2.2 h2).1;have cD:=fun X hX=>((FD.out X hX).2.2 h2).2;unfold qbq at cF;unfold qdp at cD
 go_wp2_with (first
  |(go_at_call 315;refine cF.mono ?_;rintro e w7 ⟨rfl,hB7⟩;have HB7:=qaa (HQ.out.trans (hB7.mono HQ.out.size));have cD1:=cD w7 HB7.out))
 refine cD1.mono ?_;rintro e w8 ⟨ch,sz,rfl,hbad,hB8⟩;have HB8:=qaa (HB7.out.trans (hB8.mono HB7.out.size));have HR8:=qaa ((HB8.out.block p (ltA H6.out.row)).trans H6.out.row);have HF:Hid (qcH p base W (w8.setCell ⟨p,1,none⟩ (.int .i64 ((bs.length:Int)+1)))∧qck (w8.setCell ⟨p,1,none⟩ (.int .i64 ((bs.length:Int)+1))) p base (bs++[b]) (bs.length+1)):=by
  have h9:=qj9 (H6.out.gat.below HB8.out);rw[show(bs++[b]).length=bs.length+1 by simp] at h9;have e9:(((bs.length+1:Nat)):Int)=(bs.length:Int)+1:=by omega
  rw[e9] at h9;exact⟨(H6.out.keep.trans (qcH.of_below HB8.out HBV.out)).trans qeZ,h9⟩
 have k0:=qab HR8.out 0;have k1:=qab HR8.out 1;have f1:=frozen_of_row w8 p 1 _ _ HR8.out;rw[show(bs++[b]).length=bs.length+1 by simp] at k0;cases hc1:(ch==65533)
 ·clear hbad;go_wp2;go_ret;rw[HE1.out,HE2.out];exact⟨rfl,HF.out.1,HF.out.2⟩
 have hc2:(sz==1)=false:=by rw[hc1,Bool.true_and] at hbad;exact hbad
 go_wp2;go_ret;rw[HE1.out,HE2.out];exact⟨rfl,HF.out.1,HF.out.2⟩
def qcD (r:Int):List UInt8:=(encodeRuneZ r).map fun x=>UInt8.ofNat x.toNat
theorem qop (x:Int)(h0:0≤x)(h1:x≤255):qav (UInt8.ofNat x.toNat)=.int .u8 x:=by
 unfold qav;rw[UInt8.toNat_ofNat',Nat.mod_eq_of_lt (by omega)];congr 1;omega
theorem qhx (r:Int):runeCells r=(qcD r).map qav:=by
 have hr:∀x∈encodeRuneZ r,0≤x∧x≤255:=by
  unfold encodeRuneZ
  repeat' split
  all_goals (intro x hx;simp at hx;omega)
 unfold runeCells qcD;rw[List.map_map];apply List.map_congr_left;intro x hx;exact(qop x (hr x hx).1 (hr x hx).2).symm
theorem qcg (r:Int):1≤(qcD r).length∧(qcD r).length≤4:=by
 unfold qcD encodeRuneZ;rw[List.length_map]
 repeat' split
 all_goals simp
theorem qxg {cs:List UInt8}{o:Obj}(hb:base≤W.heap.size)(hlt:p<base)(hle:wh≤bs.length)(hO:W.ownsRow base 5 1 (.slice a n c) bs.length (bs.map qav))(hown':w5.ownsRow base 5 1 (.slice (some ⟨g,0,none⟩) (bs.length+cs.length) cap5) (bs.length+cs.length) (bs.map qav++cs.map qav))(hgrow5:(W.alloc o).grownBy w5 (Value.slice a n c).ownBlock)(HR5:w5.heap[p]? = some (.cells #[.slice a n c,.int .i64 wh] 409)):qxt W p base g cap5 (bs++cs) wh (w5.setCell ⟨p,0,none⟩ (.slice (some ⟨g,0,none⟩) (bs.length+cs.length) cap5)):=by
 have hB:=qaz ((Below.refl base W).alloc hb _) (hO.alloc _) hgrow5 (by simp;omega);have hlen:(bs++cs).length=bs.length+cs.length:=List.length_append;have o5:Own w5 base (.slice (some ⟨g,0,none⟩) (bs.length+cs.length) cap5) (bs++cs):=⟨by rw[hlen,List.map_append];exact hown',by have:=hB.size;omega,_,_,_,rfl⟩
 obtain⟨⟨c1,c2,c3,c4⟩,cs'⟩:=qcB o5;have o6:=qdS (p:=p) (j:=0) (u:=.slice (some ⟨g,0,none⟩) (bs.length+cs.length) cap5) o5 hlt;have r6:=(qdr (v:=.slice (some ⟨g,0,none⟩) (bs.length+cs.length) cap5) HR5).1;refine⟨⟨hB.os,hB.tape,hB.output,by simpa [World.setCell] using hB.size,fun k hk hn=>(heap_setCell_other _ _ _ _ (by simpa using hn)).trans (hB.block k hk)⟩,⟨⟨_,r6,o6⟩,hlt,by omega⟩,by rw[hlen];exact r6,(qcB o6).2,⟨c2,c3⟩⟩
theorem qfd (W:World)(p base:Nat)(bs:List UInt8)(wh:Nat)(r:Int)(hr0 : -2147483648≤r)(hr1:r≤2147483647)(h:qck W p base bs wh)(hl:bs.length≤999999999):Calls prog 306 #[.pointer (some ⟨p,0,none⟩),.int .i32 r] W fun e W'=>e=.returned (.tuple #[])∧qcH p base W W'∧qck W' p base (bs++qcD r) (bs++qcD r).length:=by
 obtain⟨v,hr,ho,hb,a,n,c,rfl⟩:=h.row;have hlt:=h.lt;have hle:=h.le;have hn:n=bs.length:=by
  rcases ho.2 with ⟨h2,h3⟩|⟨g,cap,cur,e,_⟩
  ·cases h2;exact h3.symm
  cases e;rfl
 subst hn;have HO:=qaa ho;have HR:=qaa hr;have cA:Calls prog 201 #[.slice a bs.length c,.int .i32 r] W fun e w'=>∃g cap5,e=.returned (.slice (some ⟨g,0,none⟩) (bs.length+(qcD r).length) cap5)∧Hid (qxt W p base g cap5 (bs++qcD r) wh (w'.setCell ⟨p,0,none⟩ (.slice (some ⟨g,0,none⟩) (bs.length+(qcD r).length) cap5)))∧Hid (w'.heap[p]? = some (.cells #[.slice a bs.length c,.int .i64 wh] 409)):=by
  refine(Any.utf8_AppendRune_plain Tryz.lays242 (by kernel_rfl) base (.slice a bs.length c) bs.length (bs.map qav) r hr0 hr1 W ho (by omega) hb).mono ?_;rintro e w' ⟨v',rfl,hown,o,hgrow⟩;rw[qhx,List.length_map] at hown;have hk:=(qcg r).1;rcases hown.2 with ⟨_,h0⟩|⟨g,cap5,cur,rfl,_⟩
  ·omega
  have hR5:=(hgrow.block p (by have:=ltA hr;simp;omega) (fun e=>by have:=qbA ho e.symm;omega)).trans ((Below.heap_alloc _ _ _ (ltA hr)).trans hr);exact⟨g,cap5,rfl,qxg hb hlt hle ho hown hgrow hR5,hR5⟩
 have k0:=qab hr 0;obtain⟨m,hm⟩:∃m,(qcD r).length=m:=⟨_,rfl⟩
 have HM:Hid ((bs++qcD r).length=bs.length+m∧m≤4):=⟨by rw[List.length_append,hm],by rw[←hm];exact(qcg r).2⟩
 rw[hm] at cA;have hm4:=HM.out.2;go_enter func306,ntmps306
 go_wp2_with (first
  |(go_at_call 201;refine cA.mono ?_;rintro e w5 ⟨g5,cap5,rfl,H6,HR5⟩;have k0:=qab HR5.out 0;have f0:=frozen_of_row w5 p 0 _ _ HR5.out;have k6:=qab H6.out.row 0;have f6:=frozen_of_row _ p 1 _ _ H6.out.row;have k61:=qab H6.out.row 1;rw[HM.out.1] at k6)
  )
 go_end0;refine⟨rfl,H6.out.keep.trans qeZ,?_⟩;have h9:=qj9 H6.out.gat;have e9:(((bs++qcD r).length:Nat):Int)=(bs.length:Int)+m:=by rw[HM.out.1];omega
 rw[e9] at h9;exact h9
end
end Go.Proofs.YtllcbnfmihfaaaaGreatDoor
