import Derived.Test.YtcokgepdckkjdaaGreatDoorRq23
set_option maxRecDepth 100000
set_option maxHeartbeats 8000000
namespace Go.Proofs.YtcokgepdckkjdaaGreatDoor
open Go.Proofs.Tryz
variable {V W W' w:World}{lo n:Nat}{pre:List Str}{v:Value}{xs ys:List Value}{rs:List (List (Nat×List UInt8)×Int×Int)}
section
open Go.RowKit Go.Shelf
section
attribute [local go_sem] Oper.semAt_some
structure PdI (w:World)(n:Nat)(pre:List Str)(W:World):Prop where
 below:Below w.heap.size w W
 lab:Boxed W w.heap.size 3 (.int .i64 n)
 r0:Boxed W (w.heap.size+1) 88 (.slice none 0 0)
 r1:Boxed W (w.heap.size+2) 33 (.int .i64 0)
 r2:Boxed W (w.heap.size+3) 3 (.int .i64 0)
 rules:∃ao cap xs,Boxed W (w.heap.size+4) 88 (.slice ao pre.length cap)/\W.ownsRow (w.heap.size+8) 164 3 (.slice ao pre.length cap) pre.length xs/\Hid (RwB W (w.heap.size+8) 169 xs (pre.map fun x=>enP (enS (qdE (lst x)))))
 le:pre.length<=16
 all:(pre.map lst).all (qa9 n)=true
 size:w.heap.size+8<=W.heap.size
theorem PdI.own {row:Nat}(h:PdI w n pre W)(a:W.grownBy W' (some row))(c:row=w.heap.size+5\/(w.heap.size+8<=row/\∃o,W.heap[row]? = some o/\o.isCells=false)):PdI w n pre W':=by
 obtain⟨l,m,v,t,k,u⟩:=h.rules;refine⟨h.below.trans ⟨a.os,a.tape,a.output,a.size,fun i B=>a.block i (by have:=h.size;omega) (by intro e;injection e with e;omega)⟩,h.lab.kept a (by intro e;injection e with e;omega),h.r0.kept a (by intro e;injection e with e;omega),h.r1.kept a (by intro e;injection e with e;omega),h.r2.kept a (by intro e;injection e with e;omega),⟨l,m,v,t.kept a (by intro e;injection e with e;omega),k.kept a ?_,?hx⟩,h.le,h.all,Nat.le_trans h.size a.size⟩
 case hx =>
  refine u.out.kept fun b p y r g=>⟨r,(a.block b (ltA g) ?_).trans g⟩
  intro e;injection e with e;subst e;rcases c with c|⟨_,o,d,j⟩
  ·omega
  rw[g] at d;cases d;cases j
 rcases k.2 with ⟨f,_⟩|⟨q,x,p,f,A,s,_⟩
 ·left;rw[f];rfl
 right;rw[f];intro e;cases e;rcases c with c|⟨_,o,d,j⟩
 ·have z:q=w.heap.size+5:=c;omega
 rw[s] at d;cases d;cases j
theorem PdI.out (x:Str)(h:PdI w n pre W)(i:¬(qa9 n (lst x)=true/\pre.length<16)):RdX w n (pre++[x]) .ret (((W.setCell ⟨w.heap.size+1,0,none⟩ (.slice none 0 0)).setCell ⟨w.heap.size+1+1,0,none⟩ (.int .i64 6)).setCell ⟨w.heap.size+1+1+1,0,none⟩ (.int .i64 (pre.length:Nat))) /\
  Tr w.heap.size (w.heap.size+5) W (((W.setCell ⟨w.heap.size+1,0,none⟩ (.slice none 0 0)).setCell ⟨w.heap.size+1+1,0,none⟩ (.int .i64 6)).setCell ⟨w.heap.size+1+1+1,0,none⟩ (.int .i64 (pre.length:Nat))):=by
 have d:=Tr.set w.heap.size (w.heap.size+5) W (w.heap.size+1) (.slice none 0 0) (by omega) (by omega);have f:=Tr.set w.heap.size (w.heap.size+5) (W.setCell ⟨w.heap.size+1,0,none⟩ (.slice none 0 0)) (w.heap.size+1+1) (.int .i64 6) (by omega) (by omega);have g:=Tr.set w.heap.size (w.heap.size+5) ((W.setCell ⟨w.heap.size+1,0,none⟩ (.slice none 0 0)).setCell ⟨w.heap.size+1+1,0,none⟩ (.int .i64 6)) (w.heap.size+1+1+1) (.int .i64 (pre.length:Nat)) (by omega) (by omega);have a:=grownBy_setCell' W (w.heap.size+1) (.slice none 0 0);have b:=grownBy_setCell' (W.setCell ⟨w.heap.size+1,0,none⟩ (.slice none 0 0)) (w.heap.size+1+1) (.int .i64 6);have c:=grownBy_setCell' ((W.setCell ⟨w.heap.size+1,0,none⟩ (.slice none 0 0)).setCell ⟨w.heap.size+1+1,0,none⟩ (.int .i64 6)) (w.heap.size+1+1+1) (.int .i64 (pre.length:Nat));refine⟨⟨rfl,h.below.trans ((d.trans f).trans g).below,?_,?_,⟨pre,x,rfl,?_,h.all,h.le,i⟩,?_⟩,(d.trans f).trans g⟩
 ·exact((h.r0.set _).kept b (by intro e;injection e with e;omega)).kept c (by intro e;injection e with e;omega)
 ·exact(Boxed.set _ (h.r1.kept a (by intro e;injection e with e;omega))).kept c (by intro e;injection e with e;omega)
 ·exact Boxed.set _ ((h.r2.kept a (by intro e;injection e with e;omega)).kept b (by intro e;injection e with e;omega))
 simp[World.setCell];exact h.size
theorem PdI.alloc (h:PdI w n pre W)(o:Obj):PdI w n pre (W.alloc o):=h.own (World.grownBy_alloc W o (some (w.heap.size+5))) (.inl rfl)
theorem PdI.belowS (h:PdI w n pre W)(a:Below W.heap.size W W'):PdI w n pre W' :=
 h.own (row:=w.heap.size+5) ⟨a.os,a.tape,a.output,a.size,fun i b _=>a.block i b⟩ (.inl rfl)
theorem qw6 {w5:World}{x:Str}{v':Value}(h:PdI w n pre V)(p:Tr w.heap.size (w.heap.size+5) W V)(D:Boxed V (w.heap.size+4) 88 v)(l:V.ownsRow (w.heap.size+8) 164 3 v pre.length xs)(m:w5.ownsRow (w.heap.size+8) 164 3 v' (pre.length+1) ys)(a:V.grownBy w5 v.ownBlock)(L:¬(pre.length:Int)=16)(F:qa9 n (lst x)=true){pa:Option Addr}{pc:Nat}(G:Hid (RwB V (w.heap.size+8) 169 xs (pre.map fun x=>enP (enS (qdE (lst x))))))(C:qkk V (w.heap.size+8) 169 pa (((qdE (lst x)).1.map sgS).flatMap sgC))(H:ys=xs++[.slice pa (qdE (lst x)).1.length pc,.int .i64 (qdE (lst x)).2.1,.int .i64 (qdE (lst x)).2.2]):KeepsOthers W (w5.setCell ⟨w.heap.size+1+1+1+1,0,none⟩ v')/\qc0 (w.heap.size+5) (w.heap.size+5+3) W (w5.setCell ⟨w.heap.size+1+1+1+1,0,none⟩ v')/\PdI w n (pre++[x]) (w5.setCell ⟨w.heap.size+1+1+1+1,0,none⟩ v'):=by
 have key:=fun g h=>qbp l (g:=g) h;have f:Tr w.heap.size (w.heap.size+5) V w5:=Tr.grown l a h.size (by omega) (by omega);have i:=Tr.set w.heap.size (w.heap.size+5) w5 (w.heap.size+4) v' (by omega) (by omega);have d:=grownBy_setCell' w5 (w.heap.size+4) v';have E:=D.kept a (fun e=>by have:=key _ e.symm;omega);obtain⟨g,q,rfl⟩:=ownsRow_succ m;refine⟨(p.trans (f.trans i)).keep,(p.trans (f.trans i)).mid,⟨h.below.trans (f.trans i).below,?_,?_,?_,?_,⟨some ⟨g,0,none⟩,q,ys,?_,?_,?hy⟩,?_,?_,?_⟩⟩
 case hy =>
  have t:(pre++[x]).map (fun x=>enP (enS (qdE (lst x))))=(pre.map fun x=>enP (enS (qdE (lst x))))++[enP (enS (qdE (lst x)))]:=by rw[List.map_append];rfl
  show RwB _ _ _ _ _;rw[H,t];have o:=RwB.push (pa:=pa) (pc:=pc) G.out (e:=enP (enS (qdE (lst x)))) C;have u:(enP (enS (qdE (lst x)))).2.1=(qdE (lst x)).1.length:=List.length_map _;rw[u] at o;refine o.kept fun b r y A k=>⟨A,?_⟩
  have B:=ltA k;have I:w5.heap[b]? = some (.cells r 169 y):=by
   refine(a.block b B (fun e => ?_)).trans k;rcases l.2 with ⟨j,_⟩|⟨z,J,K,j,M,c,_⟩
   ·rw[j] at e;cases e
   rw[j] at e;injection e with e;have s:b=z:=e;rw[<-s,k] at c;injection c with c;injection c with _ c _;revert c;decide
  exact(Below.heap_setCell _ _ _ _ (by simp;omega)).trans I
 ·exact(h.lab.kept a (fun e=>by have:=key _ e.symm;omega)).kept d (by intro e;injection e with e;omega)
 ·exact(h.r0.kept a (fun e=>by have:=key _ e.symm;omega)).kept d (by intro e;injection e with e;omega)
 ·exact(h.r1.kept a (fun e=>by have:=key _ e.symm;omega)).kept d (by intro e;injection e with e;omega)
 ·exact(h.r2.kept a (fun e=>by have:=key _ e.symm;omega)).kept d (by intro e;injection e with e;omega)
 ·rw[List.length_append];exact E.set _
 ·rw[List.length_append];refine m.kept d (.inr (fun e => ?_));have:=qbp m e;omega
 ·have:=h.le;rw[List.length_append];simp;omega
 ·rw[List.map_append,List.all_append,h.all];simp[F]
 exact Nat.le_trans h.size (f.trans i).below.size
theorem PdI.drew (h:PdI w n pre W):PdI w n pre W.drew:=h.belowS (Below.refl _ _).drew
theorem qsX (w:World)(n:Nat)(s:ByteArray)(a:World)(b:((((((((w.alloc (.cells #[.int .i64 n] 3)).alloc (.cells #[.slice none 0 0] 88)).alloc (.cells #[.int .i64 0] 33)).alloc (.cells #[.int .i64 0] 3)).alloc (.cells #[.slice none 0 0] 88)).alloc (.cells #[.string s] 9)).alloc (.cells #[.string ⟨#[10]⟩] 9)).alloc (.cells #[.int .i64 0] 3))=a):PdI w n [] a:=by
 subst b;refine⟨?_,?_,?_,?_,?_,⟨none,0,[],?_,World.ownsRow_nil _ _ _ _,qnO _ _ _⟩,Nat.zero_le _,rfl,by simp⟩
 ·exact(((((((bwA).alloc (by simp) _).alloc (by simp;omega) _).alloc (by simp;omega) _).alloc (by simp;omega) _).alloc (by simp;omega) _).alloc (by simp;omega) _).alloc (by simp;omega) _
 ·exact(((((((Boxed.new w _ _).alloc _).alloc _).alloc _).alloc _).alloc _).alloc _).alloc _
 ·have:=Boxed.new (w.alloc (.cells #[.int .i64 n] 3)) 88 (.slice none 0 0);rw[World.size_alloc] at this;exact(((((this.alloc _).alloc _).alloc _).alloc _).alloc _).alloc _
 ·have:=Boxed.new ((w.alloc (.cells #[.int .i64 n] 3)).alloc (.cells #[.slice none 0 0] 88)) 33 (.int .i64 0);rw[World.size_alloc,World.size_alloc] at this;exact((((this.alloc _).alloc _).alloc _).alloc _).alloc _
 ·have:=Boxed.new (((w.alloc (.cells #[.int .i64 n] 3)).alloc (.cells #[.slice none 0 0] 88)).alloc (.cells #[.int .i64 0] 33)) 3 (.int .i64 0);rw[World.size_alloc,World.size_alloc,World.size_alloc] at this;exact(((this.alloc _).alloc _).alloc _).alloc _
 have:=Boxed.new ((((w.alloc (.cells #[.int .i64 n] 3)).alloc (.cells #[.slice none 0 0] 88)).alloc (.cells #[.int .i64 0] 33)).alloc (.cells #[.int .i64 0] 3)) 88 (.slice none 0 0);rw[World.size_alloc,World.size_alloc,World.size_alloc,World.size_alloc] at this;exact((this.alloc _).alloc _).alloc _
def PrB (W:World)(lo:Nat)(v:Value)(rs:List (List (Nat×List UInt8)×Int×Int)):Prop:=∃xs,W.ownsRow lo 164 3 v rs.length xs/\RwB W lo 169 xs (rs.map enP)
theorem PrB.kept (h:PrB W lo v rs)(i:∀b,lo<=b->b<W.heap.size->W'.heap[b]? = W.heap[b]?):PrB W' lo v rs:=by
 obtain⟨m,a,d⟩:=h;refine⟨m,⟨a.1,?_⟩,d.kept fun b e n j k=>⟨j,(i b j (ltA k)).trans k⟩⟩;rcases a.2 with c|⟨f,l,e,c,a,g,d⟩
 ·exact .inl c
 exact .inr ⟨f,l,e,c,a,(i f a (ltA g)).trans g,d⟩
theorem PrB.pru (h:PrB W lo v rs):∃a b,v=.slice a rs.length b/\qdW W a rs:=by
 obtain⟨e,c,d⟩:=h;exact qth c d
theorem quC {base:Nat}{e:TypeId}{size:Nat}(h:W.ownsRow base e size v n xs)(j:lo<=base):W.ownsRow lo e size v n xs:=by
 refine⟨h.1,?_⟩;rcases h.2 with a|⟨d,b,c,a,i,g,f⟩
 ·exact .inl a
 exact .inr ⟨d,b,c,a,by omega,g,f⟩
def qwq (n:Nat)(s:ByteArray)(w:World)(e:Ending)(w':World):Prop :=
 ∃a m cap,e=.returned (.tuple #[.slice a m cap,.int .i64 (qez n s.data.toList),.int .i64 (qka n s.data.toList)])/\Below w.heap.size w w'/\(qez n s.data.toList=0->PrB w' w.heap.size (.slice a m cap) ((qcA s.data.toList).map enS))
theorem qtl {s:ByteArray}{hs:s.size<=2000}{xs:List Str}{ao:Option Addr}{cap D:Nat}(m:¬s.size=0)(h:xs.map lst=qal 10 (lst ⟨s,hs⟩))(n:W.ownsRow (w.heap.size+8) 164 3 (.slice ao xs.length cap) xs.length ys)(A:RwB W (w.heap.size+8) 169 ys (xs.map fun x=>enP (enS (qdE (lst x)))))(r:W.heap[D]? = some (.deferred (some [])))(u:∀j,w.heap.size+8<=j->V.heap[j]? = W.heap[j]?):PrB (V.putObj D (.deferred none)) w.heap.size (.slice ao xs.length cap) ((qcA s.data.toList).map enS):=by
 have B:s.data.toList.length=s.size:=Array.length_toList;have o:qcA s.data.toList=(xs.map lst).map qdE:=by
  unfold qcA;rw[if_neg (by omega),h];rfl
 have l:∀b a t f,w.heap.size+8<=b->W.heap[b]? = some (.cells a t f)->(V.putObj D (.deferred none)).heap[b]? = some (.cells a t f):=by
  intro b a t f c d;have m:b≠D:=by
   rintro rfl;rw[r] at d;cases d
  have k:=(u b c).trans d;rw[(grownBy_putObj' V D (.deferred none)).block b (ltA k) (by simpa using m)];exact k
 have y:(V.putObj D (.deferred none)).ownsRow (w.heap.size+8) 164 3 (.slice ao xs.length cap) ((qcA s.data.toList).map enS).length ys:=by
  have e:((qcA s.data.toList).map enS).length=xs.length:=by rw[o];simp
  rw[e];refine⟨n.1,?_⟩;rcases n.2 with g|⟨i,p,a,g,c,v,q⟩
  ·exact .inl g
  exact .inr ⟨i,p,a,g,c,l i a _ _ c v,q⟩
 have z:RwB (V.putObj D (.deferred none)) (w.heap.size+8) 169 ys (((qcA s.data.toList).map enS).map enP):=by
  have e:((qcA s.data.toList).map enS).map enP=xs.map fun x=>enP (enS (qdE (lst x))):=by
   rw[o,List.map_map,List.map_map,List.map_map];rfl
  rw[e];exact A.kept fun b a f c d=>⟨c,l b a _ f c d⟩
 exact⟨ys,quC y (by omega),z.kept fun b a f c d=>⟨by omega,d⟩⟩
theorem qkL (s:ByteArray)(n:Nat)(w:World)(af:qlZ w):Calls prog 59 #[.string s,.int .i64 n] w fun e w'=>qwq n s w e w':=by
 have hl:s.data.toList.length=s.size:=Array.length_toList;obtain⟨i0,hi,ax,ay,az⟩:=info_parts Tryz.infoRule2;have HG:=qaa af;clear af;by_cases a4:(2000:Int)<s.size
 ·have E:qa3 n s.data.toList=0:=by unfold qa3;rw[if_pos (by omega)]
  have U:Hid (qez n s.data.toList=6):=by show _=_;unfold qez;rw[E];rfl
  have r:Hid (qka n s.data.toList=0):=by show _=_;unfold qka;rw[E];rfl
  clear E;go_enter func59,ntmps59;go_wp2;have l:=qfR w n 6;have R:Below w.heap.size w ((((w.alloc (.cells #[.int .i64 n] 3)).alloc (.cells #[.slice none 0 0] 88)).alloc (.cells #[.int .i64 6] 33)).alloc (.cells #[.int .i64 0] 3)):=((((bwA).alloc (by simp) _).alloc (by simp;omega) _).alloc (by simp;omega) _)
  generalize (((w.alloc (.cells #[.int .i64 n] 3)).alloc (.cells #[.slice none 0 0] 88)).alloc (.cells #[.int .i64 6] 33)).alloc (.cells #[.int .i64 0] 3)=V at *;obtain⟨F,G,H⟩:=l;refine bodyPost_ret (v:=.tuple #[.slice none 0 0,.int .i64 6,.int .i64 0]) (by simp[results,f59,go_sem,F,G,H]) rfl ?_;exact⟨none,0,0,by rw[U.out,r.out],R,fun e=>by rw[U.out] at e;cases e⟩
 have hs:s.size<=2000:=by omega
 cases hd:(s.toList==[])
 ·have K:Hid (¬s.size=0):=by
   intro h;have:s.data.toList=[]:=List.eq_nil_of_length_eq_zero (by omega);rw[Lib.toList_data,this] at hd;cases hd
  refine(callsIn_wide (n:=10)).1 ?_;refine callsIn_of_wp_marks func59 rfl trivial ?_ rfl;simp only[ntmps59,List.size_toArray,List.length_cons,List.length_nil,Nat.reduceAdd,Nat.reduceSub,Array.replicate_succ,Array.replicate_zero,List.push_toArray,List.append_toArray,List.nil_append,List.cons_append]
  gi_wp2_with fail
  refine⟨trivial,(callsIn_wide.2 (qeR s ⟨#[10]⟩ _)).mono ?_⟩;rintro e w' ⟨rfl,rfl⟩;simp only[World.size_alloc]
  gi_wp2
  obtain⟨J,P⟩:∃J,((((((((w.alloc (.cells #[.int .i64 n] 3)).alloc (.cells #[.slice none 0 0] 88)).alloc (.cells #[.int .i64 0] 33)).alloc (.cells #[.int .i64 0] 3)).alloc (.cells #[.slice none 0 0] 88)).alloc (.cells #[.string s] 9)).alloc (.cells #[.string ⟨#[10]⟩] 9)).alloc (.cells #[.int .i64 0] 3))=J:=⟨_,rfl⟩
  have aw:J.heap.size=w.heap.size+8:=by rw[<-P];simp
  have ae:=qsX w n s J P;have ad:=qo3 w n s J P;rw[P];refine qc6 rfl (by omega) (gf:=131) (lb:=#[.pointer (some ⟨w.heap.size+1+1+1+1+1+1,0,none⟩),.pointer (some ⟨w.heap.size+1+1+1+1+1,0,none⟩),.pointer (some ⟨w.heap.size+1+1+1+1+1+1+1,0,none⟩)]) rfl trivial (enters_of func131 (by kernel_rfl) rfl)
   (st:=w.heap.size+5) (by omega) (lo:=w.heap.size+5) (hi:=w.heap.size+5+3) (by omega) (qiV 9 (w.heap.size+5) 10 ⟨s,hs⟩ J ad) bwR (fun x=>rfl)
   (fun pre W=>PdI w n pre W) (fun c pre W=>RdX w n pre c W)
   (fun pre A al h hg=>h.own hg (.inl rfl)) (fun c pre A al h hg=>h.own hg (by omega))
   (fun pre A k o o' h N hk hc=>h.own (grownBy_putObj' A k o') (.inr ⟨by omega,o,hk,hc⟩)) (fun c pre A k o o' h N hk hc=>h.own (grownBy_putObj' A k o') (by omega))
   ae
   (fun x=>{tmps:=#[.string s,.int .i64 n,undef,.pointer (some ⟨w.heap.size,0,none⟩),.pointer (some ⟨w.heap.size+1,0,none⟩),.pointer (some ⟨w.heap.size+1+1,0,none⟩),.pointer (some ⟨w.heap.size+1+1+1,0,none⟩),.pointer (some ⟨w.heap.size+1+1+1+1,0,none⟩),.string x.1,undef,undef,.string s,.int .i64 s.size,.bool false,.string s,.bool false,.string s,.func (.func 131) #[] #[.pointer (some ⟨w.heap.size+1+1+1+1+1+1,0,none⟩),.pointer (some ⟨w.heap.size+1+1+1+1+1,0,none⟩),.pointer (some ⟨w.heap.size+1+1+1+1+1+1+1,0,none⟩)],.string x.1,undef,undef,undef,undef,undef,undef,undef,undef,undef,undef,undef,undef,undef,undef,undef,undef,undef,undef,undef,undef],defers:=[]}) ?assign ?body ?done ?stop
  case assign =>
   intro ak x W a0 I
   gi_wp2
   exact I
  case body =>
   clear ae ad P aw;intro ak pre x W y a6;have C:=qaa y;have c0:=y.lab.cell;have cR:=qiQ x.1 n W x.2 (HG.out.below y.below);clear y
   gi_wp2_with fail
   refine⟨trivial,((callsIn_wide.2 cR).inRound ak).mono ?_⟩;clear cR c0;rintro e g ⟨i,m,z,p,t,rfl,N,O⟩;have am:Hid (qa9 n x.1.data.toList=true->m=(qdE x.1.data.toList).1.length/\p=(qdE x.1.data.toList).2.1/\t=(qdE x.1.data.toList).2.2/\qkk g (w.heap.size+8) 169 i (((qdE x.1.data.toList).1.map sgS).flatMap sgC)):=fun e=>⟨(O e).1,(O e).2.1,(O e).2.2.1,(O e).2.2.2.kept fun a1 a3 fr h1 h3=>⟨by have:=C.out.size;omega,h3⟩⟩
   clear O;simp only[qf5];have aa:=qaa (C.out.belowS N);have aq:Hid (Tr w.heap.size (w.heap.size+5) W g):=Tr.below' N (by have:=C.out.size;omega) (by have:=C.out.size;omega);clear N C;have ba:=aa.out.size;have a:Hid (PdI w n pre (g.alloc (.cells #[.slice i m z,.int .i64 p,.int .i64 t] 164))):=aa.out.alloc _;have B:Hid (Tr w.heap.size (w.heap.size+5) W (g.alloc (.cells #[.slice i m z,.int .i64 p,.int .i64 t] 164))):=aq.out.trans (Tr.alloc _ _ _ _ (by omega) (by omega));have a5:=a.out.le;cases S:qa9 n x.1.data.toList
   ·have ah:¬(qa9 n (lst x)=true/\pre.length<16):=fun h=>by have h1:qa9 n x.1.data.toList=true:=h.1;rw[S] at h1;cases h1
    have X:=qaa ah;clear ah
    gi_wp2
    generalize g.alloc (.cells #[.slice i m z,.int .i64 p,.int .i64 t] 164)=V at *;obtain⟨d,f,u,L,Z,ab⟩:=a.out.rules;have c4:V.cell? ⟨w.heap.size+1+1+1+1,0,none⟩=some (.slice d pre.length f):=L.cell;have c1:=a.out.r0.cell;have f1:=a.out.r0.frozen;have c2:V.cell? ⟨w.heap.size+1+1,0,none⟩=some (.int .i64 0):=a.out.r1.cell;have f2:V.frozen? ⟨w.heap.size+1+1,0,none⟩=false:=a.out.r1.frozen;have c3:V.cell? ⟨w.heap.size+1+1+1,0,none⟩=some (.int .i64 0):=a.out.r2.cell;have f3:V.frozen? ⟨w.heap.size+1+1+1,0,none⟩=false:=a.out.r2.frozen
    gi_region
    all_goals gi_wp2
    all_goals exact⟨((B.out.trans (qoF V (by have:=a.out.size;omega) (by have:=a.out.size;omega))).trans (a.out.drew.out x X.out).2).keep,(a.out.drew.out x X.out).1⟩
   have a9:g.heap.size<(g.alloc (.cells #[.slice i m z,.int .i64 p,.int .i64 t] 164)).heap.size:=by simp
   have a8:=qac g (.cells #[.slice i m z,.int .i64 p,.int .i64 t] 164);obtain⟨d,f,u,L,Z,ab⟩:=a.out.rules;have c4:(g.alloc (.cells #[.slice i m z,.int .i64 p,.int .i64 t] 164)).cell? ⟨w.heap.size+1+1+1+1,0,none⟩=some (.slice d pre.length f):=L.cell;have HP:=qaa L;have M:=qaa Z;by_cases ac:(pre.length:Int)=16
   ·have X:Hid (¬(qa9 n (lst x)=true/\pre.length<16)):=fun h=>by omega
    have c1:=a.out.r0.cell;have f1:=a.out.r0.frozen;have c2:(g.alloc (.cells #[.slice i m z,.int .i64 p,.int .i64 t] 164)).cell? ⟨w.heap.size+1+1,0,none⟩=some (.int .i64 0):=a.out.r1.cell;have f2:(g.alloc (.cells #[.slice i m z,.int .i64 p,.int .i64 t] 164)).frozen? ⟨w.heap.size+1+1,0,none⟩=false:=a.out.r1.frozen;have c3:(g.alloc (.cells #[.slice i m z,.int .i64 p,.int .i64 t] 164)).cell? ⟨w.heap.size+1+1+1,0,none⟩=some (.int .i64 0):=a.out.r2.cell;have f3:(g.alloc (.cells #[.slice i m z,.int .i64 p,.int .i64 t] 164)).frozen? ⟨w.heap.size+1+1+1,0,none⟩=false:=a.out.r2.frozen
    gi_wp2
    generalize g.alloc (.cells #[.slice i m z,.int .i64 p,.int .i64 t] 164)=V at *
    gi_region
    all_goals gi_wp2
    all_goals
     have o:=a.out.drew.out x X.out;rw[ac] at o;exact⟨((B.out.trans (qoF V (by have:=a.out.size;omega) (by have:=a.out.size;omega))).trans o.2).keep,o.1⟩
   have ap:Hid (qa9 n (lst x)=true):=S;have T:=qaa (am.out S)
   gi_wp2_with (first
    |(gi_at_builtin;refine wpListIn_append_own _ rfl _ _ 88 rfl (w.heap.size+8) 164 i0 (.agg qc2) 3 40 underlying88 hi ax ay az rfl (by decide) _ _ _ rfl (M.out.alloc _) ⟨g.heap.size+1,0,none⟩ 1 1 [.slice i m z,.int .i64 p,.int .i64 t] rfl rfl (qbP _ _ _ _) (fun x b=>by simp at b;rcases b with rfl|rfl|rfl<;>rfl) (by unfold maxLen;omega) (by omega) (by simp;omega) ?_;intro v' w5 ai ag a7;obtain⟨g5,a2,rfl⟩:=ownsRow_succ ai;have aj:=(HP.out.alloc _).kept ag (fun e=>by have:=qbp M.out e.symm;omega);have c5:w5.cell? ⟨w.heap.size+1+1+1+1,0,none⟩=some (.slice d pre.length f):=aj.cell;have f5:w5.frozen? ⟨w.heap.size+1+1+1+1,0,none⟩=false:=aj.frozen))
   exact qw6 (a.out.alloc _) (B.out.trans (Tr.alloc _ _ _ _ (by simp;omega) (by simp;omega))) (HP.out.alloc _) (M.out.alloc _) ai ag ac ap.out (ab.out.below bwA) ((T.out.2.2.2.below bwA).below bwA) (by show _++[Value.slice i m z,.int .i64 p,.int .i64 t]=_;rw[T.out.1,T.out.2.1,T.out.2.2.1];rfl)
  case done =>
   intro D u W hD hS y I;obtain⟨d,f,ys,L,Z,ar⟩:=y.rules;have M:=qaa Z;have C:=qaa y;have HS:=qaa hS;have HK:=qaa I;have c4:W.cell? ⟨w.heap.size+1+1+1+1,0,none⟩=some (.slice d u.length f):=L.cell;have c1:=y.r0.cell;have f1:=y.r0.frozen;have c2:W.cell? ⟨w.heap.size+1+1,0,none⟩=some (.int .i64 0):=y.r1.cell;have f2:W.frozen? ⟨w.heap.size+1+1,0,none⟩=false:=y.r1.frozen;have c3:W.cell? ⟨w.heap.size+1+1+1,0,none⟩=some (.int .i64 0):=y.r2.cell;have f3:W.frozen? ⟨w.heap.size+1+1+1,0,none⟩=false:=y.r2.frozen
   gi_wp2
   have E:=qv3 K.out HS.out C.out.le C.out.all;have Y:qez n s.data.toList=0:=by unfold qez;rw[E];rfl
   have hN:qka n s.data.toList=0:=by unfold qka;rw[E];rfl
   have t1:=Tr.set w.heap.size (w.heap.size+5) W (w.heap.size+1) (.slice d u.length f) (by omega) (by omega);have t2:=Tr.set w.heap.size (w.heap.size+5) (W.setCell ⟨w.heap.size+1,0,none⟩ (.slice d u.length f)) (w.heap.size+1+1) (.int .i64 0) (by omega) (by omega);have t3:=Tr.set w.heap.size (w.heap.size+5) ((W.setCell ⟨w.heap.size+1,0,none⟩ (.slice d u.length f)).setCell ⟨w.heap.size+1+1,0,none⟩ (.int .i64 0)) (w.heap.size+1+1+1) (.int .i64 0) (by omega) (by omega);have g1:=grownBy_setCell' W (w.heap.size+1) (.slice d u.length f);have g2:=grownBy_setCell' (W.setCell ⟨w.heap.size+1,0,none⟩ (.slice d u.length f)) (w.heap.size+1+1) (.int .i64 0);have g3:=grownBy_setCell' ((W.setCell ⟨w.heap.size+1,0,none⟩ (.slice d u.length f)).setCell ⟨w.heap.size+1+1,0,none⟩ (.int .i64 0)) (w.heap.size+1+1+1) (.int .i64 0);have b0:=((C.out.r0.set (.slice d u.length f)).kept g2 (by intro e;injection e with e;omega)).kept g3 (by intro e;injection e with e;omega);have b1:=(Boxed.set (.int .i64 0) (C.out.r1.kept g1 (by intro e;injection e with e;omega))).kept g3 (by intro e;injection e with e;omega);have b2:=Boxed.set (.int .i64 0) ((C.out.r2.kept g1 (by intro e;injection e with e;omega)).kept g2 (by intro e;injection e with e;omega));have R:=C.out.below.trans ((t1.trans t2).trans t3).below;have I:=((t1.trans t2).trans t3).keep.same D _ HK.out rfl;have HC:Hid (∀j,w.heap.size+8<=j->(((W.setCell ⟨w.heap.size+1,0,none⟩ (.slice d u.length f)).setCell ⟨w.heap.size+1+1,0,none⟩ (.int .i64 0)).setCell ⟨w.heap.size+1+1+1,0,none⟩ (.int .i64 0)).heap[j]? = W.heap[j]?):=fun j hj=>((Below.heap_setCell _ _ _ _ (by simp;omega)).trans (Below.heap_setCell _ _ _ _ (by simp;omega))).trans (Below.heap_setCell _ _ _ _ (by simp;omega));generalize ((W.setCell ⟨w.heap.size+1,0,none⟩ (.slice d u.length f)).setCell ⟨w.heap.size+1+1,0,none⟩ (.int .i64 0)).setCell ⟨w.heap.size+1+1+1,0,none⟩ (.int .i64 0)=V at *;refine⟨by simp,.inl ⟨D,_,rfl,run_takeDeferred I,?_⟩⟩;have F:=(Boxed.kept b0 (grownBy_putObj' V D (.deferred none)) (by intro e;injection e with e;omega)).cell;have G:(V.putObj D (.deferred none)).cell? ⟨w.heap.size+1+1,0,none⟩=some (.int .i64 0):=(Boxed.kept b1 (grownBy_putObj' V D (.deferred none)) (by intro e;injection e with e;omega)).cell;have H:(V.putObj D (.deferred none)).cell? ⟨w.heap.size+1+1+1,0,none⟩=some (.int .i64 0):=(Boxed.kept b2 (grownBy_putObj' V D (.deferred none)) (by intro e;injection e with e;omega)).cell;refine⟨.tuple #[.slice d u.length f,.int .i64 0,.int .i64 0],?_,⟨d,u.length,f,by rw[Y,hN],qbs R (by omega) _,fun _=>qtl K.out HS.out M.out ar.out HK.out HC.out⟩⟩;simp[results,f59,go_sem,F,G,H]
  case stop =>
   intro D c pre W hD hS Q I;obtain rfl:=Q.ret
   gi_wp2
   obtain⟨q,x,rfl,au,ha,av,b⟩:=Q.bad;obtain⟨bb,S⟩:=hS;have E:=qxv K.out S ha av b;have Y:qez n s.data.toList=6:=by unfold qez;rw[E,if_pos (by omega)]
   have hN:qka n s.data.toList=q.length:=by unfold qka;rw[E,if_pos (by omega)]
   refine⟨by simp,.inl ⟨D,_,rfl,run_takeDeferred I,?_⟩⟩;have F:=(Q.r0.kept (grownBy_putObj' W D (.deferred none)) (by intro e;injection e with e;omega)).cell;have G:(W.putObj D (.deferred none)).cell? ⟨w.heap.size+1+1,0,none⟩=some (.int .i64 6):=(Q.r1.kept (grownBy_putObj' W D (.deferred none)) (by intro e;injection e with e;omega)).cell;have H:(W.putObj D (.deferred none)).cell? ⟨w.heap.size+1+1+1,0,none⟩=some (.int .i64 (q.length:Nat)):=(au.kept (grownBy_putObj' W D (.deferred none)) (by intro e;injection e with e;omega)).cell;refine⟨.tuple #[.slice none 0 0,.int .i64 6,.int .i64 (q.length:Nat)],?_,⟨none,0,0,by rw[Y,hN],qbs Q.below (by omega) _,fun e=>by rw[Y] at e;cases e⟩⟩;simp[results,f59,go_sem,F,G,H]
 have h0:s.data.toList=[]:=by rw[<-Lib.toList_data];exact eq_of_beq hd
 have E:qa3 n s.data.toList = -1:=by unfold qa3;rw[h0];rfl
 have U:Hid (qez n s.data.toList=0):=by show _=_;unfold qez;rw[E];rfl
 have r:Hid (qka n s.data.toList=0):=by show _=_;unfold qka;rw[E];rfl
 have an:Hid (qcA s.data.toList=[]):=by show _=_;unfold qcA;rw[h0];rfl
 go_enter func59,ntmps59;go_wp2;have l:=qfR w n 0;have R:Below w.heap.size w ((((w.alloc (.cells #[.int .i64 n] 3)).alloc (.cells #[.slice none 0 0] 88)).alloc (.cells #[.int .i64 0] 33)).alloc (.cells #[.int .i64 0] 3)):=((((bwA).alloc (by simp) _).alloc (by simp;omega) _).alloc (by simp;omega) _)
 generalize (((w.alloc (.cells #[.int .i64 n] 3)).alloc (.cells #[.slice none 0 0] 88)).alloc (.cells #[.int .i64 0] 33)).alloc (.cells #[.int .i64 0] 3)=V at *;obtain⟨F,G,H⟩:=l;refine bodyPost_ret (v:=.tuple #[.slice none 0 0,.int .i64 0,.int .i64 0]) (by simp[results,f59,go_sem,F,G,H]) rfl ?_;exact⟨none,0,0,by rw[U.out,r.out],R,fun _=>by rw[an.out];exact⟨[],World.ownsRow_nil _ _ _ _,qnO _ _ _⟩⟩
end

end
end Go.Proofs.YtcokgepdckkjdaaGreatDoor
