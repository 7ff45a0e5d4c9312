import Derived.Test.YtcokgepdckkjdaaGreatDoorRq37
import Derived.Test.YtcokgepdckkjdaaGreatDoorRq41
set_option maxRecDepth 100000
set_option maxHeartbeats 8000000
namespace Go.Proofs.YtcokgepdckkjdaaGreatDoor
open Go.Proofs.Tryz
variable {c:Cfg}{A L b b0 j mn sc:Nat}{fed l:List UInt8}{U V V' W W' W0 w:World}{q:Aut}{bv sv v:Value}{sts:List ((Nat->Nat)×Int×Int)}{sa:Option Addr}{mf nf:Lit->Option Nat}{z:Cz}
section
open Go.RowKit Go.Lib
structure qnq (c:Cfg):Prop where
 lab:1<=c.labels/\c.labels<=6
 dfl:0<=c.dflt/\c.dflt<(c.labels.toNat:Int)
 clr:0<=c.clr/\c.clr<(c.labels.toNat:Int)
 inn:c.inn=1\/c.inn=2\/c.inn=3
 out:c.out=1\/c.out=2\/c.out=3
 dep:1<=c.depth/\c.depth<=16
 byt:1<=c.bytes/\c.bytes<=4096
 b8:c.B.length<=8
 b6:∀i (h:i<c.B.length),c.B[i]<=65536
 pol:qez c.labels.toNat c.pol.data.toList=0
theorem qs9 {f:Int}(h:qfm f=true):f=1\/f=2\/f=3:=by
 unfold qfm at h;simp only[Bool.or_eq_true,beq_iff_eq] at h;omega
theorem qqt (h:qbw c=0):qnq c:=by
 have k:=qoa h;rw[<-(qk2 c).1] at h;unfold qhk at h;split at h
 ·next hh=>exact absurd h hh
 next hh =>
 have g:roE c.labels c.L c.dflt c.clr=0:=Classical.byContradiction hh;split at h
 ·cases h
 next a =>
 split at h
 ·cases h
 next d =>
 have a:qf4 c.inn c.out c.depth c.bytes=true:=by simpa using a
 have d:qaG c.B=true:=by simpa using d
 unfold roE at g;split at g
 ·next hn =>
  simp only[Bool.and_eq_true] at hn;obtain⟨⟨b,e⟩,f⟩:=hn;unfold qbx at b;rw[Bool.and_eq_true] at b;have b:=of_decide_eq_true b.1;have e:=of_decide_eq_true e;have f:=of_decide_eq_true f;unfold qf4 at a;simp only[Bool.and_eq_true,decide_eq_true_eq] at a;unfold qaG at d;rw[Bool.and_eq_true] at d;refine⟨⟨b.1,b.2.1⟩,e,f,qs9 a.1.1.1.1.1,qs9 a.1.1.1.1.2,⟨a.1.1.1.2,a.1.1.2⟩,⟨a.1.2,a.2⟩,of_decide_eq_true d.1,fun i j => ?_,k⟩;have:=of_decide_eq_true (List.all_eq_true.1 d.2 i (List.mem_range.2 j));rw[List.getD_eq_getElem?_getD,List.getElem?_eq_getElem j] at this;exact this.2
 cases g
theorem quj {n:Nat}(h:qez n l=0):∀x∈(qcA l).map enS,∃m:Nat,x.2.1=(m:Int)/\m<n:=by
 have g:qa3 n l<0:=by
  unfold qez at h;split at h
  ·cases h
  omega
 intro x k;obtain⟨r,f,rfl⟩:=List.mem_map.1 k;unfold qa3 at g;unfold qcA at f;split at g
 ·omega
 split at g
 ·next h0 =>
  rw[if_pos h0] at f;cases f
 next h0 =>
 rw[if_neg h0] at f;obtain⟨i,_⟩:=qpw (qal 10 l) 0 g (by omega);obtain⟨y,o,rfl⟩:=List.mem_map.1 f;have e:=i y o;unfold qa9 at e;show ∃m:Nat,(qdE y).2.1=(m:Int)/\m<n;unfold qdE
 match hs:qal 32 y,e with
 |[a,b,c],e =>
  unfold qiX at e;simp only[Bool.and_eq_true] at e;have e:=e.2.1
  match b,e with
  |[d],e =>
   unfold qh5 at e;rw[Bool.and_eq_true] at e;have j:=of_decide_eq_true e.1;have p:=of_decide_eq_true e.2;refine⟨d.toNat-48,?_,by omega⟩;show(if 48<=d.toNat/\d.toNat<=57 then (d.toNat:Int)-48 else 0)=_;rw[if_pos j];omega
structure qko (b:Nat)(W:World):Prop where
 rd:qeK W
 st:qiG b W
 db:W.cell? ⟨8,15,none⟩=some (.int .u8 4)
 gl:qlZ W
 big:9<=b/\b<=W.heap.size
theorem qbj (a:∀q,q<9->V.heap[q]? = W.heap[q]?){q off:Nat}(b:q<9)(h:W.cell? ⟨q,off,none⟩=some v):V.cell? ⟨q,off,none⟩=some v:=(World.cell?_of_block (w:=W) (a q b)).trans h
theorem U8.low (a:∀q,q<9->V.heap[q]? = W.heap[q]?)(h:U8 W):U8 V :=
 ⟨fun c d=>qbj a (by decide) (h.1 c d),fun i b=>⟨qbj a (by decide) (h.2 i b).1,qbj a (by decide) (h.2 i b).2⟩⟩
theorem qko.below (h:qko b W)(d:Below b W V):qko b V:=by
 have a:∀q,q<9->V.heap[q]? = W.heap[q]?:=fun q i=>d.block q (by have:=h.big.1;omega);have j:=d.size;refine⟨⟨h.rd.u8.low a,⟨fun u c=>qbj a (by decide) (h.rd.hd.cb u c),fun u c=>⟨qbj a (by decide) (h.rd.hd.pk u c).1,qbj a (by decide) (h.rd.hd.pk u c).2.1,qbj a (by decide) (h.rd.hd.pk u c).2.2⟩⟩,?_⟩,h.st.on d,qbj a (by decide) h.db,?_,h.big.1,?_⟩
 ·have:=h.rd.big;omega
 ·obtain⟨t,e,f⟩:=h.gl.signs;obtain⟨m,g⟩:=h.gl.mlen;exact⟨⟨t,e,(a _ (by decide)).trans f⟩,U8.low a h.gl.tabs,m,qbj a (by decide) g⟩
 have:=h.big.2;omega
theorem qko.up (h:qko b W)(a:Below b W V):qiG V.heap.size V:=fun d c=>h.st d (a.trans (c.mono (by have:=h.big.2;have:=a.size;omega)))

def rvC (c:Cfg):Rv:=⟨qlc c,c.dflt,qcF c.labels.toNat c.L,c.clr.toNat,c.key⟩
def kC (c:Cfg):Nat:=c.depth.toNat+1
def rcC (c:Cfg)(A:Nat):Array Value:=qan c.labels.toNat (qcF c.labels.toNat c.L)++#[.int .i64 c.clr,.int .i64 c.key,.pointer (some ⟨A,0,none⟩)]
def gtC (c:Cfg)(A:Nat)(bv:Value):Gt:=⟨c.inn,c.out,c.depth,c.bytes.toNat,rcC c A,bv⟩
theorem qi1 (c:Cfg)(A:Nat):(rcC c A).size=40:=by unfold rcC;rw[Array.size_append,qae];rfl
theorem quf (ck:qnq c)(A:Nat)(a:Value):quV c A a=qay (gtC c A a) (.slice none 0 0) false:=by
 have h:((c.bytes.toNat:Nat):Int)=c.bytes:=Int.toNat_of_nonneg (by have:=ck.byt;omega);unfold quV qay gtC rcC;dsimp only;rw[h]
def Xc (A:Nat)(q:Aut)(own0:Option Nat)(j:Nat):Prop:=j≠A/\j≠q.nb/\j≠q.mb/\some j≠own0
theorem qtE (ck:qnq c)(h:GOp c W0 L A q sts sa sc nf mf bv V)(g:qko b W0)(f:W0.heap.size<=U.heap.size)(i:Option Nat):qkl ⟨rvC c,W0,A,q,U.heap.size+2,qan c.labels.toNat (qcF c.labels.toNat c.L),c.labels.toNat,U,i⟩:=by
 obtain⟨a,d,e⟩:=qoK ck.pol;refine⟨h.cp.ers,h.cp.edf,h.cp.elf,h.cp.eL,h.cp.ly,a,d,e,qaw _ _,?_,?_,?_,Nat.le_trans f (Nat.le_add_right _ _),Nat.le_add_right _ _,g.db⟩
 ·show c.labels.toNat<=6;have:=ck.lab;omega
 ·show c.clr.toNat<c.labels.toNat;have:=ck.clr;omega
 refine qpt ⟨c.dflt.toNat,?_,?_⟩ (qlc c) (quj ck.pol)
 ·show c.dflt=_;have:=ck.dfl;omega
 show c.dflt.toNat<c.labels.toNat;have:=ck.dfl;omega
theorem q1G (ck:qnq c)(w:∀r:Rc,qkl r->r.v=rvC c->q1L r (kC c) [])(h:GOp c W0 L A q sts sa sc nf mf bv V)(C:qko b W0)(k:Below V.heap.size V U){t:TypeId}{y:Value}{d:DataW Unit}(s:qai (kC c) V (fun j=>j<V.heap.size) (.iface t y) d)(J:szF (kC c) d<=2000000):Calls prog 67 #[.agg (rcC c A),.iface t y] U (qnw (Xc A q (Value.slice sa sts.length sc).ownBlock) V.heap.size (kC c) U (rwF (rvC c) (kC c) [] d (0,0,0,0)).2 ((rwF (rvC c) (kC c) [] d (0,0,0,0)).1.getD .nil)):=by
 have f:qcj W0 A q sts (.slice sa sts.length sc) nf 0 mf U:=h.cp.au.next k
 have z:W0.heap.size<=U.heap.size:=f.below.size;have ok:=qtE (U:=U) ck h C z (Value.slice sa sts.length sc).ownBlock;have u:=(qoK ck.pol).1;have B:StF ⟨rvC c,W0,A,q,U.heap.size+2,qan c.labels.toNat (qcF c.labels.toNat c.L),c.labels.toNat,U,(Value.slice sa sts.length sc).ownBlock⟩ sts 0 []:=by
  obtain⟨x,Y,l,i,m⟩:=h.cp.first
  exact⟨x,l,qsv (qpa h.cp.ly i) u m⟩
 have I:=qkK (kC c) d;have H:=qjz (kC c) d;have n:=qqe ⟨rvC c,W0,A,q,U.heap.size+2,qan c.labels.toNat (qcF c.labels.toNat c.L),c.labels.toNat,U,(Value.slice sa sts.length sc).ownBlock⟩ ok rfl U rfl rfl (kC c) (w _ ok rfl) (fun j=>j<V.heap.size) (.iface t y) d 0 sts sa sc nf 0 mf f h.cp.mv (Nat.le_refl _) h.cp.few rfl B (fun j g=>Nat.lt_of_lt_of_le g k.size) (s.same (fun _ g=>g) (fun j g=>k.block j g)) (by omega) (by omega);have o:qhl ⟨rvC c,W0,A,q,U.heap.size+2,qan c.labels.toNat (qcF c.labels.toNat c.L),c.labels.toNat,U,(Value.slice sa sts.length sc).ownBlock⟩=rcC c A:=by
  have p:((c.clr.toNat:Nat):Int)=c.clr:=Int.toNat_of_nonneg ck.clr.1;unfold qhl rcC rvC;dsimp only;rw[p]
 rw[o] at n;refine n.mono ?_;rintro e G ⟨E,F,rfl,l,i,m,D⟩;refine⟨E,F,rfl,⟨⟨i.os.trans f.below.os.symm,i.tape.trans f.below.tape.symm,i.output.trans f.below.output.symm⟩,l,fun j a b=>m j a b.1 b.2.1 b.2.2.1 b.2.2.2⟩,D⟩
theorem qqv {F:Nat->Prop}{ba:Option Addr}{bc:Nat}{B:List Int}(h:qb1 W 3 1 F (.slice ba B.length bc) B.length (B.map (Value.int .i64))):qbV W ba B:=by
 refine⟨fun i p => ?_⟩;rcases h.2 with ⟨_,l⟩|⟨g,k,c,e,_,a,m,n,o,d⟩
 ·omega
 injection e with e1 _ _;refine⟨g,0,e1,(ltA a),fun j f => ?_⟩;rw[Nat.zero_add];refine(qab a j).trans ?_;have b:(c.toList.take (B.length*1))[j]? = (B.map (Value.int .i64))[j]?:=by rw[d]
 rw[List.getElem?_take_of_lt (by omega),List.getElem?_map,List.getElem?_eq_getElem f] at b;simpa using b
def clO (c:Cfg)(l:List UInt8):Cz:=match qgE c.inn l c.depth c.bytes with
 |.error e=>.error e
 |.ok d=>.ok ((rwF (rvC c) (kC c) [] d (0,0,0,0)).2,poF c.out (kC c) ((rwF (rvC c) (kC c) [] d (0,0,0,0)).1.getD .nil) c.B)

theorem qnd (X:Nat->Prop)(k:Nat)(W:World)(L:Nat)(g:Gt)(C:g.rc.size=40)(a:Option Addr)(c b:Nat)(az:(qay g (.slice a c b) false).all (·.oneCell')=true)(O:W.heap[L]? = some (.cells (qay g (.slice a c b) false) 101))(r:Except (Int×Int) (DataW Unit))(ak:∀A pl,r=.error (A,pl)->A≠0)(ac:Cz)(cD:∀U,Below (clW W L g (.slice a c b)).heap.size (clW W L g (.slice a c b)) U->Calls prog 66 #[.int .i64 g.inF,.agg #[.int .i64 g.depth,.int .i64 g.bytes],.slice a c b] U (qg6 k U r))(hz:∀e,r=.error e->ac=.error e)(J:∀d,r=.ok d->∃R m,ac=.ok (R,m)/\∀V t y,Below (clW W L g (.slice a c b)).heap.size (clW W L g (.slice a c b)) V->qai k V (fun j=>(clW W L g (.slice a c b)).heap.size<=j/\j<V.heap.size) (.iface t y) d->∀U,Below V.heap.size V U->Calls prog 40 #[.pointer (some ⟨W.heap.size+1,0,none⟩),.iface t y] U (qlJ X U R m)):Calls prog 23 #[.pointer (some ⟨L,0,none⟩)] W (qwk X W L ac):=by
 have hL:=ltA O;have ar:(W.alloc (.cells #[.int .i64 0,.int .i64 0,.int .i64 0,.int .i64 0] 39)).cell? ⟨L,46,none⟩=some (.bool false):=(qab ((Below.heap_alloc _ _ _ hL).trans O) 46).trans (qbO C _ _ 2);have w:Hid ((W.alloc (.cells #[.int .i64 0,.int .i64 0,.int .i64 0,.int .i64 0] 39)).heap[L]? = some (.cells (qay g (.slice a c b) false) 101)):=(Below.heap_alloc _ _ _ hL).trans O;have D:Hid (((W.alloc (.cells #[.int .i64 0,.int .i64 0,.int .i64 0,.int .i64 0] 39)).alloc (.cells (qay g (.slice a c b) false) 101)).heap[L]? = some (.cells (qay g (.slice a c b) false) 101)):=(Below.heap_alloc _ _ _ (by rw[World.size_alloc];omega)).trans w.out;have ab:Hid (((W.alloc (.cells #[.int .i64 0,.int .i64 0,.int .i64 0,.int .i64 0] 39)).alloc (.cells (qay gtZ (.slice none 0 0) false) 101)).heap[W.heap.size+1]? = some (.cells (qay gtZ (.slice none 0 0) false) 101)):=by
  have h:=qac (W.alloc (.cells #[.int .i64 0,.int .i64 0,.int .i64 0,.int .i64 0] 39)) (.cells (qay gtZ (.slice none 0 0) false) 101);rw[World.size_alloc] at h;exact h
 have I:Hid (((W.alloc (.cells #[.int .i64 0,.int .i64 0,.int .i64 0,.int .i64 0] 39)).alloc (.cells (qay gtZ (.slice none 0 0) false) 101)).setRow (W.heap.size+1) (qay g (.slice a c b) false)=(W.alloc (.cells #[.int .i64 0,.int .i64 0,.int .i64 0,.int .i64 0] 39)).alloc (.cells (qay g (.slice a c b) false) 101)):=by
  have h:=World.setRow_alloc_new (W.alloc (.cells #[.int .i64 0,.int .i64 0,.int .i64 0,.int .i64 0] 39)) (qay gtZ (.slice none 0 0) false) (qay g (.slice a c b) false) 101;rw[World.size_alloc] at h;exact h
 have G:Hid ((qay g (.slice a c b) false).size=47):=qcC C _ _;have ai:Hid ((qay gtZ (.slice none 0 0) true).size=47):=qcC qki _ _;have H:Hid ((qay gtZ (.slice none 0 0) false).size=(qay g (.slice a c b) false).size):=by show _=_;rw[qcC C,qcC qki]
 have x:Hid ((qay g (.slice a c b) false).size=(qay gtZ (.slice none 0 0) true).size):=by show _=_;rw[qcC C,qcC qki]
 have af:Hid ((qay g (.slice a c b) false).all (·.oneCell')=true):=az;have ag:Hid ((qay gtZ (.slice none 0 0) true).all (·.oneCell')=true):=by show _=_;kernel_rfl
 have v:Hid (clW W L g (.slice a c b)=((W.alloc (.cells #[.int .i64 0,.int .i64 0,.int .i64 0,.int .i64 0] 39)).alloc (.cells (qay g (.slice a c b) false) 101)).setRow L (qay gtZ (.slice none 0 0) true)):=rfl;have u:Hid ((clW W L g (.slice a c b)).heap[W.heap.size]? = some (.cells (qaF (0,0,0,0)) 39)):=quk W L g _ hL;have p:Hid ((clW W L g (.slice a c b)).heap[L]? = some (.cells (qay gtZ (.slice none 0 0) true) 101)):=qq8 W L g _ O;have an:Hid ((clW W L g (.slice a c b)).heap.size=W.heap.size+2):=qft W L g _;have M:=qlu k (clW W L g (.slice a c b)) (W.heap.size+1) g C a c b false r (ql2 W L g _ hL) cD;have HP:Hid (∀d,r=.ok d->∃R m,ac=.ok (R,m)/\∀V t y,Below (clW W L g (.slice a c b)).heap.size (clW W L g (.slice a c b)) V->qai k V (fun j=>(clW W L g (.slice a c b)).heap.size<=j/\j<V.heap.size) (.iface t y) d->∀U,Below V.heap.size V U->Calls prog 40 #[.pointer (some ⟨W.heap.size+1,0,none⟩),.iface t y] U (qlJ X U R m)):=J;clear O C cD J az;have ad:Hid (prog.built 101 [(6,.bool true)]=some (qay gtZ (.slice none 0 0) true)):=qpB;obtain⟨o,aq⟩:∃o,Hid (clW W L g (.slice a c b)=o):=⟨_,rfl⟩
 have ae:Hid (∀V,Frx X (clW W L g (.slice a c b)) V->Fry X L W V):=fun V h=>Fry.of h;rw[aq.out] at v u p an M HP ae;clear aq;have av:L≠W.heap.size:=by omega
 obtain⟨K,a1⟩:∃K,Hid (qay g (.slice a c b) false=K):=⟨_,rfl⟩
 obtain⟨q,E⟩:∃q,Hid (qay gtZ (.slice none 0 0) true=q):=⟨_,rfl⟩
 rw[a1.out] at w D I G H x af v;rw[E.out] at v p ai x ag ad;rcases r with ⟨A,pl⟩|d
 ·obtain rfl:=hz _ rfl;have ay:=ak A pl rfl;have e1:(A==0)=false:=by simpa using ay
  have e2:(A != 0)=true:=by simpa using ay
  clear hz ak HP;go_enter func23,ntmps23
  go_wp2_with (first
   |(refine wpList_load_row rfl 101 _ rfl L rfl _ _ _ _ w.out underlying101 rfl (qhr G.out) ?_)
   |(refine qdC rfl rfl _ rfl (W.heap.size+1) ?hN ?_;case hN=>(simp only[World.size_alloc];done))
   |(refine wpList_store_row rfl 101 _ _ rfl (W.heap.size+1) K rfl rfl 101 _ ab.out (qhr G.out) H.out af.out ?_;rw[I.out];clear ab I)
   |(refine qak rfl 101 _ rfl _ rfl _ [(6,.bool true)] ?hl ad.out ?_;case hl=>simp[go_sem])
   |(refine wpList_store_row rfl 101 _ _ rfl L q rfl rfl 101 _ D.out (qhr ai.out) x.out ag.out ?_;rw[<-v.out];clear ar w D H x v)
   |(go_at_call 39;refine M.mono ?_;clear M;rintro e n ⟨l,hF⟩;obtain rfl:=hF;have z:Hid (Frx X o n):=Frx.of_below l;have F:Hid (n.heap[W.heap.size]? = some (.cells (qaF (0,0,0,0)) 39)):=(l.block _ (ltA u.out)).trans u.out;have aa:Hid (n.heap[L]? = some (.cells q 101)):=(l.block _ (ltA p.out)).trans p.out;clear l u p)
   |(refine wpList_store_row rfl 39 _ _ rfl W.heap.size #[.int .i64 0,.int .i64 0,.int .i64 0,.int .i64 0] rfl rfl 39 _ F.out qcs rfl qiF ?_))
  refine bodyPost_ret (qds results23 _ _ W.heap.size 39 #[.int .i64 0,.int .i64 0,.int .i64 0,.int .i64 0] (0,0) _ rfl (setRow_heap _ _ _ _ _ _ F.out) underlying39 rfl qcs _ _ _ rfl rfl rfl) rfl ?_;exact⟨none,0,0,rfl,(ae.out _ z.out).set (Nat.le_refl _) _,by rw[E.out];exact(setRow_other _ _ _ _ av).trans aa.out,rfl⟩
 obtain⟨R,m,rfl,aw⟩:=HP.out d rfl;have am:Hid (∀V t y,Below o.heap.size o V->qai k V (fun j=>o.heap.size<=j/\j<V.heap.size) (.iface t y) d->∀U,Below V.heap.size V U->Calls prog 40 #[.pointer (some ⟨W.heap.size+1,0,none⟩),.iface t y] U (qlJ X U R m)):=aw;clear hz ak HP aw;obtain⟨f,ao⟩:∃f,Hid (poR R m=f):=⟨_,rfl⟩
 obtain⟨Y,al⟩:∃Y,Hid (poE m=Y):=⟨_,rfl⟩
 go_enter func23,ntmps23
 go_wp2_with (first
  |(refine wpList_load_row rfl 101 _ rfl L rfl _ _ _ _ w.out underlying101 rfl (qhr G.out) ?_)
  |(refine qdC rfl rfl _ rfl (W.heap.size+1) ?hN ?_;case hN=>(simp only[World.size_alloc];done))
  |(refine wpList_store_row rfl 101 _ _ rfl (W.heap.size+1) K rfl rfl 101 _ ab.out (qhr G.out) H.out af.out ?_;rw[I.out];clear ab I)
  |(refine qak rfl 101 _ rfl _ rfl _ [(6,.bool true)] ?hl ad.out ?_;case hl=>simp[go_sem])
  |(refine wpList_store_row rfl 101 _ _ rfl L q rfl rfl 101 _ D.out (qhr ai.out) x.out ag.out ?_;rw[<-v.out];clear ar w D H x v)
  |(go_at_call 39;refine M.mono ?_;clear M;rintro e n ⟨l,hF⟩;obtain⟨t,y,rfl,hT⟩:=hF;have J:=am.out n t y l hT n bwR;have z:Hid (Frx X o n):=Frx.of_below l;have F:Hid (n.heap[W.heap.size]? = some (.cells (qaF (0,0,0,0)) 39)):=(l.block _ (ltA u.out)).trans u.out;have aa:Hid (n.heap[L]? = some (.cells q 101)):=(l.block _ (ltA p.out)).trans p.out;have ap:Hid (W.heap.size<n.heap.size):=by {have h:=l.size;have h2:=an.out;show _<_;omega};clear l u p am hT)
  |(go_at_call 40;refine J.mono ?_;clear J;rintro e i ⟨P,T,Q,rfl,au,ax⟩;have s:Hid (qx2 X W o L i.heap.size f (.slice P T Q) m (i.alloc (.cells (qaF f) 39))):=qwR ap.out z.out au F.out (by rw[E.out];exact aa.out) ax;clear au ax z F aa ap;rw[ao.out,al.out])
  |(refine wpList_store_row rfl 39 _ _ rfl i.heap.size (qaF f) rfl rfl 39 _ (qac i _) (qaS f) rfl (qdV f) ?_;rw[World.setRow_alloc_new]))
 have N:(fun Z:World=>Z.heap[i.heap.size]? = some (.cells (qaF f) 39)) { (i.alloc (.cells (qaF f) 39)) with drawn:=(i.alloc (.cells (qaF f) 39)).drawn+1}:=s.out.rep;refine wp_region_held (S:=fun Z=>Z.heap[i.heap.size]? = some (.cells (qaF f) 39)) (by kernel_rfl) ?_;have a2:Hid (Frx X o { (i.alloc (.cells (qaF f) 39)) with drawn:=(i.alloc (.cells (qaF f) 39)).drawn+1}):=s.out.fr.drew;have ah:Hid (({ (i.alloc (.cells (qaF f) 39)) with drawn:=(i.alloc (.cells (qaF f) 39)).drawn+1}:World).heap[W.heap.size]? = some (.cells (qaF (0,0,0,0)) 39)):=s.out.res;have a0:Hid (({ (i.alloc (.cells (qaF f) 39)) with drawn:=(i.alloc (.cells (qaF f) 39)).drawn+1}:World).heap[L]? = some (.cells q 101)):=by show _=_;rw[<-E.out];exact s.out.gate
 have a3:Hid (PoV { (i.alloc (.cells (qaF f) 39)) with drawn:=(i.alloc (.cells (qaF f) 39)).drawn+1} W.heap.size (.slice P T Q) m):=s.out.val.same fun _ h=>h;have a7:W.heap.size<i.heap.size:=s.out.lt;clear s;generalize ({ (i.alloc (.cells (qaF f) 39)) with drawn:=(i.alloc (.cells (qaF f) 39)).drawn+1}:World)=w6 at *;generalize i.heap.size=N8 at *;refine tkH 0 39 (.slice P T Q) rfl (by kernel_rfl) (fun _ _ _ h=>h) (fun Z B=>by kernel_rfl) N ?_;refine tkH 1 40 (.agg (qaF f)) rfl (by kernel_rfl) (fun _ _ _ h=>h) (fun Z B => ?y1) N ?_
 case y1=>exact qix 39 (.tmp 11) (by kernel_rfl) N8 (by kernel_rfl) _ _ _ _ B underlying39 (by kernel_rfl) (qaS f)
 refine tkH 2 41 (.int .i64 Y) rfl (by kernel_rfl) (fun _ _ _ h=>h) (fun Z B=>by kernel_rfl) N ?_;refine tkH 3 2 (.slice P T Q) rfl (by kernel_rfl) (fun _ _ _ h=>h) (fun Z B=>by kernel_rfl) N ?_;refine rdS 4 rfl (by kernel_rfl) (fun a6 hK => ?_);refine ifw (by kernel_rfl) ?_;refine wp_store_row 39 (.tmp 3) (.tmp 40) rfl W.heap.size (qaF f) (by kernel_rfl) (by kernel_rfl) 39 (qaF (0,0,0,0)) ah.out (qaS f) (qvx _ _) (qdV f) ?_;have aj:(fun Z:World=>Z.heap[N8]? = some (.cells (qaF f) 39)) (w6.setRow W.heap.size (qaF f)):=sx (by omega) N;refine hK.out _ _ aj (fun _ => ?_);clear hK;refine tkH 5 4 (.int .i64 Y) rfl (by kernel_rfl) (fun _ _ _ h=>h) (fun Z B=>by kernel_rfl) aj ?_;refine tkH 6 5 (.int .i64 0) rfl (by kernel_rfl) (fun _ _ _ h=>h) (fun Z B=>by kernel_rfl) aj ?_;refine wpAnyH_done (by kernel_rfl) ?_ _;go_simp
 go_wp2_with fail
 refine bodyPost_ret (qds results23 _ _ W.heap.size 39 (qaF f) (0,0) _ rfl (setRow_heap _ _ _ _ _ _ ah.out) underlying39 rfl (qaS f) _ _ _ rfl rfl rfl) rfl ?_;have a5:=ao.out;have a4:=al.out;subst a5;subst a4;exact⟨P,T,Q,rfl,(ae.out _ a2.out).set (Nat.le_refl _) _,by rw[E.out];exact(setRow_other _ _ _ _ av).trans a0.out,a3.out.same fun _ h=>qgZ h ah.out⟩

def qru (A:Nat)(q:Aut)(own0:Option Nat)(j:Nat):Prop:=j=A\/j=q.lm\/j=q.tb\/j=q.nb\/j=q.mb\/own0=some j
theorem qvO (h:qcj W0 A q sts sv nf mn mf W){cs:Array Value}(a:W.heap[L]? = some (.cells cs 101))(b:qru A q sv.ownBlock j):j≠L:=by
 intro e;subst e;rcases b with rfl|rfl|rfl|rfl|rfl|b
 ·rw[h.row] at a;injection a with a;injection a with _ a _;exact absurd a (by decide)
 ·exact qaD h.letters a
 ·obtain⟨d,c,_⟩:=h.takes;rw[c] at a;injection a with a;injection a with _ a _;exact absurd a (by decide)
 ·exact qaD h.numbers a
 ·exact qaD h.moves a
 exact absurd (qf0 h.states b a) (by decide)
theorem qqJ (h:qcj W0 A q sts sv nf mn mf W)(a:qru A q sv.ownBlock j):j<W.heap.size:=by
 have c:∀{d:TypeId} {m n:Nat} {f:Lit->Option Nat},qcW W d m n f->m<W.heap.size:=by
  rintro d m n f ⟨D,⟨r,p,i,_⟩,_⟩;exact ltA i
 rcases a with rfl|rfl|rfl|rfl|rfl|a
 ·exact ltA h.row
 ·exact c h.letters
 ·obtain⟨e,l,_⟩:=h.takes;exact ltA l
 ·exact c h.numbers
 ·exact c h.moves
 rcases h.states.2 with ⟨b,_⟩|⟨g,o,e,b,_,k,_⟩
 ·rw[b] at a;cases a
 rw[b] at a;injection a with a;have a:g=j:=a;rw[<-a];exact ltA k
theorem GOp.step (h:GOp c W0 L A q sts sa sc nf mf bv W)(l:W0.heap.size<=L)(d:W'.os=W.os/\W'.tape=W.tape/\W'.output=W.output)(k:W.heap.size<=W'.heap.size)(e:∀j,j<L->W'.heap[j]? = W.heap[j]?)(i:∀j,qru A q (Value.slice sa sts.length sc).ownBlock j->W'.heap[j]? = W.heap[j]?):GOp c W0 L A q sts sa sc nf mf bv W':=by
 have a:=h.cp.au.below;refine⟨{h.cp with au:=h.cp.au.rebase rfl ⟨d.1.trans a.os,d.2.1.trans a.tape,d.2.2.trans a.output,Nat.le_trans a.size k,fun j f=>(e j (by omega)).trans (a.block j f)⟩ h.cp.au.rules i},h.bk.same (fun _ b=>b) (fun g b=>e g b.2),h.bs⟩
def qgo (c:Cfg)(b0 L b:Nat)(fed:List UInt8)(W:World):Prop :=
 ∃W0 A q sts sa sc nf mf bv fa fn fc,GOp c W0 L A q sts sa sc nf mf bv W/\(b0<=W0.heap.size/\W0.heap.size<=L/\L<b/\b<=W.heap.size)/\qko b0 W0/\W.heap[L]? = some (.cells (qay (gtC c A bv) (.slice fa fn fc) false) 101)/\Own W b (.slice fa fn fc) fed/\(∀j,qru A q (Value.slice sa sts.length sc).ownBlock j->j<b)/\fed.length<=c.bytes.toNat+1
theorem qgo.tab (h:qgo c b0 L b fed W):qko b0 W:=by
 obtain⟨f,A,q,p,n,o,m,l,g,i,k,j,a,d,e,_⟩:=h;exact e.below (a.cp.au.below.mono d.1)
theorem qgo.step (h:qgo c b0 L b fed W)(a:Below W.heap.size W W'):qgo c b0 L b fed W':=by
 obtain⟨i,A,q,y,w,x,v,u,k,l,n,m,e,d,o,f,p,r,s⟩:=h;have t:=ltA f;refine⟨i,A,q,y,w,x,v,u,k,l,n,m,e.step d.2.1 ⟨a.os,a.tape,a.output⟩ a.size (fun j g=>a.block j (by omega)) (fun j g=>a.block j (qqJ e.cp.au g)),⟨d.1,d.2.1,d.2.2.1,Nat.le_trans d.2.2.2 a.size⟩,o,(a.block L t).trans f,qgt p a,r,s⟩
theorem qv8 (c:Cfg)(w:World)(o:ql7 w c)(i:qko w.heap.size w):Calls prog 21 #[.agg c.arr] w fun e f=>Below w.heap.size w f/\((¬qbw c=0/\e=.returned (.tuple #[.pointer none,.int .i64 (qbw c)]))\/(qbw c=0/\∃L,e=.returned (.tuple #[.pointer (some ⟨L,0,none⟩),.int .i64 0])/\qgo c w.heap.size L f.heap.size [] f)):=by
 refine(qqI c w o i.gl (fun h=>(qqt h).b8)).mono ?_;rintro e f ⟨a,b⟩;refine⟨a,?_⟩;rcases b with b|⟨b,l,L,A,q,x,u,v,t,s,n,rfl,m,p,C,r,k⟩
 ·exact .inl b
 refine .inr ⟨b,L,rfl,l,A,q,x,u,v,t,s,n,none,0,0,k,⟨m,p,by omega,Nat.le_refl _⟩,?_,?_,qip f,fun j g=>qqJ k.cp.au g,Nat.zero_le _⟩
 ·have d:=k.cp.au.below;have z:∀q,q<9->l.heap[q]? = w.heap[q]?:=fun q B=>by
   have y:=i.big.1;rw[<-d.block q (by omega)];exact a.block q (by omega)
  refine i.below ⟨d.os.symm.trans a.os,d.tape.symm.trans a.tape,d.output.symm.trans a.output,m,fun j g => ?_⟩;rw[<-d.block j (by omega)];exact a.block j g
 rw[<-quf (qqt b)];exact r
theorem qgT (a:∀q,q<9->V.heap[q]? = W.heap[q]?)(h:qeK W):qeK V:=by
 refine⟨h.u8.low a,⟨fun u b=>qbj a (by decide) (h.hd.cb u b),fun u b=>⟨qbj a (by decide) (h.hd.pk u b).1,qbj a (by decide) (h.hd.pk u b).2.1,qbj a (by decide) (h.hd.pk u b).2.2⟩⟩,?_⟩;have c:=a 8 (by omega);have d:=h.big;rw[Array.getElem?_eq_getElem (show 8<W.heap.size by omega)] at c;exact ltA c
structure GPr (c:Cfg):Prop where
 doc:∀{U:World},qeK U->∀(fa:Option Addr) (fc:Nat) (l:List UInt8),l.length<=4097->qa4 U fa l->∀(A:Nat) (bv:Value),Calls prog 66 #[.int .i64 (gtC c A bv).inF,.agg #[.int .i64 (gtC c A bv).depth,.int .i64 (gtC c A bv).bytes],.slice fa l.length fc] U (qg6 (kC c) U (qgE c.inn l c.depth c.bytes))
 bad:∀l,Bad (qgE c.inn l c.depth c.bytes)
 size:∀l x,qgE c.inn l c.depth c.bytes=.ok x->∀k,szF k x+30<=400*l.length
def qqs (c:Cfg)(fed bs:List UInt8):List UInt8:=fed++bs.take (c.bytes.toNat+1-fed.length)
theorem qvp (ck:qnq c)(u:GPr c)(h:qgo c b0 L b fed W)(i:Option Addr)(g:Nat)(bs:List UInt8)(G:qa4 W i bs)(N:i=none->g=0)(H:bs.length<=g):Calls prog 22 #[.pointer (some ⟨L,0,none⟩),.slice i bs.length g] W fun e f=>e=.returned (.int .i64 (quW (qgE c.inn (qqs c fed bs) c.depth c.bytes) (qqs c fed bs).length))/\qgo c b0 L b (qqs c fed bs) f/\W.heap.size<=f.heap.size/\Below b0 W f:=by
 have O:=h.tab;obtain⟨B,A,q,Y,V,X,T,S,l,r,t,s,v,d,w,x,y,z,D⟩:=h;have Z:=ck.byt;have J:(qqs c fed bs).length<=c.bytes.toNat+1:=by
  unfold qqs;rw[List.length_append,List.length_take];omega
 have I:=qqT (kC c) W L b (gtC c A l) (qi1 c A) (.slice r t s) fed i g bs (qqs c fed bs) rfl x y d.2.2.1 G N H (by show c.bytes.toNat<=4096;omega) D (qgE c.inn (qqs c fed bs) c.depth c.bytes) (u.bad _) (fun U m n F E=>u.doc (qgT (fun q hq=>F q (by have:=w.big.1;omega)) O.rd) m n _ (by omega) E A l);refine I.mono ?_;rintro e f ⟨m,C,n,rfl,P,Q,k,p,R⟩;have M:∀j,j<b->some j≠(Value.slice r t s).ownBlock:=fun j a e=>by have:=qbA y.1 e.symm;omega
 have o:∀j,j<b->j≠L->f.heap[j]? = W.heap[j]?:=fun j a K=>R j (by omega) K (M j a);refine⟨rfl,⟨B,A,q,Y,V,X,T,S,l,m,C,n,v.step d.2.1 k p (fun j a=>o j (by omega) (by omega)) (fun j a=>o j (z j a) (qvO v.cp.au x a)),⟨d.1,d.2.1,d.2.2.1,Nat.le_trans d.2.2.2 p⟩,w,Q,P,z,J⟩,p,k.1,k.2.1,k.2.2,by omega,fun j a=>o j (by omega) (by omega)⟩

theorem qqD (h:∃a b,bv=.slice a c.B.length b)(e:Option Addr)(g f:Nat)(d:Bool):(qay (gtC c A bv) (.slice e g f) d).all (·.oneCell')=true:=by
 obtain⟨a,b,rfl⟩:=h;unfold qay gtC rcC;dsimp only;rw[Array.all_append,Array.all_append,Array.all_append,qe0];simp[Value.oneCell']
theorem qoh (h:Own W b v l)(c:W.heap.size<=W'.heap.size)(a:∀g,v.ownBlock=some g->W'.heap[g]? = W.heap[g]?):Own W' b v l:=⟨qdn h.1 a,Nat.le_trans h.2.1 c,h.2.2⟩
theorem que (h:Own W b v l){g:Nat}(e:v.ownBlock=some g):g<W.heap.size:=by
 rcases h.1.2 with ⟨a,_⟩|⟨c,f,i,a,_,d,_⟩
 ·rw[a] at e;cases e
 rw[a] at e;injection e with e;have e:c=g:=e;rw[<-e];exact ltA d
def qpj (c:Cfg)(b0 L:Nat)(l:List UInt8)(W:World)(e:Ending)(V':World):Prop :=
 ∃va vn vc,e=.returned (.tuple #[.slice va vn vc,.agg (qaF (czR (clO c l))),.int .i64 (czE (clO c l)),.int .i64 (czP (clO c l))])/\Below b0 W V'/\W.heap.size<=V'.heap.size/\V'.heap[L]? = some (.cells (qay gtZ (.slice none 0 0) true) 101)/\CzV V' W.heap.size (.slice va vn vc) (clO c l)
structure GPw (c:Cfg):Prop where
 rw:∀{b:Nat} {W0:World} {L A:Nat} {q:Aut} {sts:List ((Nat->Nat)×Int×Int)} {sa:Option Addr} {sc:Nat} {nf mf:Lit->Option Nat} {bv:Value} {V U:World} (_h:GOp c W0 L A q sts sa sc nf mf bv V) (_ht:qko b W0) (_hU:Below V.heap.size V U) {t:TypeId} {y:Value} {d:DataW Unit} (_hd:qai (kC c) V (fun j=>j<V.heap.size) (.iface t y) d) (_hsz:szF (kC c) d<=2000000),Calls prog 67 #[.agg (rcC c A),.iface t y] U (qnw (Xc A q (Value.slice sa sts.length sc).ownBlock) V.heap.size (kC c) U (rwF (rvC c) (kC c) [] d (0,0,0,0)).2 ((rwF (rvC c) (kC c) [] d (0,0,0,0)).1.getD .nil))
 wr:∀l d,l.length<=4097->qgE c.inn l c.depth c.bytes=.ok d->WrP c.out (kC c) ((rwF (rvC c) (kC c) [] d (0,0,0,0)).1.getD .nil)
theorem qsk (ck:qnq c)(G:GPr c)(K:GPw c)(h:qgo c b0 L b fed W):Calls prog 23 #[.pointer (some ⟨L,0,none⟩)] W (qpj c b0 L fed W):=by
 have ah:=h.tab;obtain⟨z,A,q,x,v,w,S,R,f,i,fn,k,m,H,C,I,D,h6,h7⟩:=h;have am:=ck.byt;have V:=ltA I;have P:fed.length<=4097:=by omega
 obtain⟨Y,Z,F,al⟩:=qc8 D;injection F with e1 e2 e3;subst e1;subst e2;subst e3;have E:∀j,j<W.heap.size->j≠L->(clW W L (gtC c A f) (.slice i fed.length k)).heap[j]? = W.heap[j]?:=fun j a b=>qgj _ _ _ _ j a b;have an:=qft W L (gtC c A f) (.slice i fed.length k);have aa:Own (clW W L (gtC c A f) (.slice i fed.length k)) b (.slice i fed.length k) fed:=qoh D (by omega) (fun g e=>E g (que D e) (by have:=qbA D.1 e;omega));have M:GOp c z L A q x v w S R f (clW W L (gtC c A f) (.slice i fed.length k)):=m.step H.2.1 (qpV _ _ _ _) (by omega) (fun j l=>E j (by omega) (by omega)) (fun j l=>E j (qqJ m.cp.au l) (qvO m.cp.au I l));have ab:qeK (clW W L (gtC c A f) (.slice i fed.length k)):=qgT (fun q hq=>E q (by have:=C.big.1;omega) (by have:=C.big.1;omega)) ah.rd;have af:=ql2 W L (gtC c A f) (.slice i fed.length k) V;have ae:=qnd (Xc A q (Value.slice v x.length w).ownBlock) (kC c) W L (gtC c A f) (qi1 c A) i fed.length k (qqD m.bs i fed.length k false) I (qgE c.inn fed c.depth c.bytes) (G.bad _) (clO c fed)
  (fun U r=>by
   obtain⟨Y,Z,F,ad⟩:=qc8 (qgt aa r);injection F with e1 e2 e3;subst e1;exact G.doc (ab.below r) i k fed P ad A f)
  (fun e he=>by unfold clO;rw[he])
  (fun d J=>by
   refine⟨_,_,(by unfold clO;rw[J]),fun ak t y N ai U r => ?_⟩;have ao:=G.size fed _ J (kC c);have p:Below (clW W L (gtC c A f) (.slice i fed.length k)).heap.size (clW W L (gtC c A f) (.slice i fed.length k)) U:=N.trans (r.mono N.size);have n:GOp c z L A q x v w S R f U:=M.step H.2.1 ⟨p.os,p.tape,p.output⟩ p.size (fun j l=>p.block j (by omega)) (fun j l=>p.block j (qqJ M.cp.au l));have aj:qai (kC c) U (fun j=>j<U.heap.size) (.iface t y) d:=ai.same (fun j l=>Nat.lt_of_lt_of_le l.2 r.size) (fun j l=>r.block j l.2);obtain⟨T,X,O⟩:=n.bs;have s:Below b0 z U:=n.cp.au.below.mono H.1;have ag:∀o,Frx (Xc A q (Value.slice v x.length w).ownBlock) U o->Below b0 z o:=fun o hF=>by
    refine⟨hF.world.1.trans s.os,hF.world.2.1.trans s.tape,hF.world.2.2.trans s.output,Nat.le_trans s.size hF.rows.size,fun j l=>(hF.block j (by have:=s.size;omega) ⟨?_,?_,?_,?_⟩).trans (s.block j l)⟩
    ·have:=n.cp.au.high.1;omega
    ·have:=n.cp.au.high.2.2.2.1;omega
    ·have:=n.cp.au.high.2.2.2.2;omega
    intro e;have:=qbA n.cp.au.states e.symm;omega
   refine qm9 (Xc A q (Value.slice v x.length w).ownBlock) (kC c) U (W.heap.size+1) (gtC c A f) (qi1 c A) (.slice i fed.length k) false ((p.block _ (by omega)).trans af) t y _ _ T X c.B O ck.b8 ck.b6 (K.wr fed d P J) (fun o hF => ?_) (fun o hF=>C.up (ag o hF)) (fun U' ac=>K.rw n C ac aj (by omega));have Q:=n.bk;rw[O] at Q;exact qqv (Q.kept (fun _ hg=>hg) hF.rows (by decide) (by decide) (by decide)))
 refine ae.mono ?_;rintro e o ⟨va,vn,vc,rfl,u,k2,k3⟩;refine⟨va,vn,vc,rfl,⟨u.world.1,u.world.2.1,u.world.2.2,Nat.le_trans (by omega) u.size,fun j l=>u.block j (by omega) (by omega) ⟨?_,?_,?_,?_⟩⟩,u.size,k2,k3⟩
 ·have:=m.cp.au.high.1;omega
 ·have:=m.cp.au.high.2.2.2.1;omega
 ·have:=m.cp.au.high.2.2.2.2;omega
 intro e;have:=qbA m.cp.au.states e.symm;omega

theorem qsT (c:Int)(n:Nat)(w:World)(i:1<=n)(f:n<=maxLen)(j : -9223372036854775808<=c)(k:c<=9223372036854775807):Calls prog 4 #[.int .i64 c,.int .i64 n] w fun e g=>e=.returned (.int .i64 (qie c n))/\g=w:=by
 unfold maxLen at f;have l:(0:Int)<n:=by omega
 by_cases h:c<0
 ·have a:Hid ((qie c n:Int)=(-(c+1))%n):=by
   have b:=Int.emod_nonneg (-(c+1)) (show(n:Int)≠0 by omega);show _=_;unfold qie;rw[if_pos h,Int.toNat_of_nonneg b]
  go_enter func4,ntmps4;go_wp2;go_ret;have d : -((c+1).tmod n)=(-(c+1))%n:=by rw[<-Int.neg_tmod,Int.tmod_eq_emod_of_nonneg (by omega)]
  exact⟨by rw[a.out,<-d];rfl,rfl⟩
 have a:Hid ((qie c n:Int)=c%n):=by
  have b:=Int.emod_nonneg c (show(n:Int)≠0 by omega);show _=_;unfold qie;rw[if_neg h,Int.toNat_of_nonneg b]
 go_enter func4,ntmps4;go_wp2;go_ret;exact⟨by rw[a.out];rfl,rfl⟩
theorem qis (W:World)(l:List UInt8)(d:l.length<=maxLen):∃a V,(convert 9 66 (.string ⟨l.toArray⟩)).run prog W=.ok (.slice (some ⟨W.heap.size,0,none⟩) l.length a) V/\Below W.heap.size W V/\qa4 V (some ⟨W.heap.size,0,none⟩) l/\l.length<=a:=by
 have h:=run_bytes_of_string (P:=prog) W 9 66 5 ⟨l.toArray⟩ underlying9 underlying66 underlying5;have b:(⟨l.toArray⟩:ByteArray).size=l.length:=List.size_toArray ..;refine⟨_,_,by rw[<-b];exact h,((Below.refl _ _).drew).alloc (Nat.le_refl _) _,⟨fun i c=>⟨W.heap.size,0,rfl,by rw[World.size_alloc];exact Nat.lt_succ_self _,?_⟩,d⟩,by rw[b];exact grownCap_ge _ _ _ _⟩;rw[Nat.zero_add];refine(World.cell?_alloc_mark W.drew _ _ _ i).trans ((bytesRow_at ⟨l.toArray⟩ _ i (by simpa using c)).trans ?_);simp
theorem qt8 (s:ByteArray)(p:Nat)(d:p<=s.size)(w:World):(Instr.sliceAt 9 (.string s) none (some (.int .i64 p)) none).run prog w=.ok (.string (s.extract 0 p)) w:=by
 have a:(0:Int)<=(p:Int):=by omega
 have b:(p:Int)<=(s.size:Int):=by omega
 have c:=underlying9;simp only[go_sem,c,a,b,Int.toNat_natCast]
theorem qtd (s:ByteArray)(p:Nat)(d:p<=s.size)(w:World):(Instr.sliceAt 9 (.string s) (some (.int .i64 p)) none none).run prog w=.ok (.string (s.extract p s.size)) w:=by
 have a:(0:Int)<=(p:Int):=by omega
 have b:(p:Int)<=(s.size:Int):=by omega
 have c:=underlying9;simp only[go_sem,c,a,b,Int.toNat_natCast]
theorem qqa (l:List UInt8)(p q:Nat):(⟨l.toArray⟩:ByteArray).extract p q=⟨((l.take q).drop p).toArray⟩:=by
 apply ByteArray.ext;rw[ByteArray.data_extract];apply Array.ext';rw[Array.toList_extract,List.extract_eq_take_drop];show(l.drop p).take (q-p)=(l.take q).drop p;rw[List.drop_take]
theorem qhS (l:List UInt8):(⟨l.toArray⟩:ByteArray).size=l.length:=List.size_toArray ..
theorem qvj (l:List UInt8)(p:Nat)(a:p<=l.length)(w:World):(Instr.sliceAt 9 (.string ⟨l.toArray⟩) none (some (.int .i64 p)) none).run prog w=.ok (.string ⟨(l.take p).toArray⟩) w:=by
 have h:=qt8 ⟨l.toArray⟩ p (by rw[qhS];exact a) w;rw[qqa] at h;exact h
theorem qvU (l:List UInt8)(p:Nat)(a:p<=l.length)(w:World):(Instr.sliceAt 9 (.string ⟨l.toArray⟩) (some (.int .i64 p)) none none).run prog w=.ok (.string ⟨(l.drop p).toArray⟩) w:=by
 have h:=qtd ⟨l.toArray⟩ p (by rw[qhS];exact a) w;rw[qqa,qhS,List.take_length] at h;exact h
theorem qko.top (h:qko b W):qko W.heap.size W:=⟨h.rd,h.up bwR,h.db,h.gl,by have:=h.big;omega,Nat.le_refl _⟩
theorem qjx (c:Cfg)(l bs:List UInt8):qqs c (l.take (c.bytes.toNat+1)) bs=(l++bs).take (c.bytes.toNat+1):=by
 unfold qqs;rw[List.take_append,List.length_take];by_cases h:l.length<=c.bytes.toNat+1
 ·rw[Nat.min_eq_right h]
 rw[Nat.min_eq_left (by omega),Nat.sub_self,show c.bytes.toNat+1-l.length=0 by omega]
def czS (z:Cz):List UInt8:=match z with
 |.ok (_,.ok l)=>l
 |_=>[]
theorem qow {base:Nat}(h:CzV V base v z):(convert 66 9 v).run prog V=.ok (.string ⟨(czS z).toArray⟩) V:=by
 match z,h with
 |.ok (_,.ok l),h=>exact qkU h
 |.ok (_,.error _),h =>
  have h:v=.slice none 0 0:=h;rw[h];exact qle V
 |.error _,h =>
  have h:v=.slice none 0 0:=h;rw[h];exact qle V
def tdA (s:List UInt8)(R:Rep)(e p:Int):Array Value:=#[.string ⟨s.toArray⟩,.int .i64 R.1,.int .i64 R.2.1,.int .i64 R.2.2.1,.int .i64 R.2.2.2,.int .i64 e,.int .i64 p]
def tdZ:Array Value:=tdA [] (0,0,0,0) 0 0
theorem qnP (e:Int):prog.built 41 [(2,.int .i64 e)]=some (tdA [] (0,0,0,0) e 0):=by kernel_rfl
theorem qnK (s:List UInt8)(R:Rep)(e p:Int):prog.built 41 [(0,.string ⟨s.toArray⟩),(1,.agg (qaF R)),(2,.int .i64 e),(3,.int .i64 p)]=some (tdA s R e p):=by kernel_rfl
theorem qh3 (s:List UInt8)(R:Rep)(e p:Int):(prog.info? 41).map (·.size)=some (tdA s R e p).size:=by kernel_rfl
theorem qmf (s:List UInt8)(R:Rep)(e p:Int):(tdA s R e p).all (·.oneCell')=true:=by simp[tdA,Value.oneCell']
def tdO (c:Cfg)(l:List UInt8):Array Value:=if qbw c=0 then tdA (czS (clO c (l.take (c.bytes.toNat+1)))) (czR (clO c (l.take (c.bytes.toNat+1)))) (czE (clO c (l.take (c.bytes.toNat+1)))) (czP (clO c (l.take (c.bytes.toNat+1)))) else tdA [] (0,0,0,0) (qbw c) 0
theorem qhe {P:Program}{fn:Func}{p u:Tmp}{ty:TypeId}(h:fn.results=#[.cell p ty,.tmp u])(b:Array Value)(w:World)(g:Nat)(t:TypeId)(cs:Array Value)(c:Nat×Nat)(d:TypeDesc)(j:b.getD p undef=.pointer (some ⟨g,0,none⟩))(i:w.heap[g]? = some (.cells cs t c))(k:P.underlying ty=some d)(f:(match d with|.struct _|.array _ _=>true|_=>false)=true)(hi:(P.info? ty).map (·.size)=some cs.size)(v:Value)(l:b.getD u undef=v):(results fn b).run P w=.ok (.tuple #[.agg cs,v]) w:=by
 have e:(results fn b).run P w=((asAddr (b.getD p undef)).run P w).andThen fun a m=>((loadVar ty a).run P m).andThen fun v n=>.ok (.tuple #[v,b.getD u undef]) n:=by
  simp only[results,h];simp[Sem.run_bind,Result.andThen]
 subst l;rw[e,j];simp only[asAddr,Sem.run_pure,Result.andThen_ok,run_loadVar_row w g t ty cs c d i k f hi]
structure qkm (w:World)(c:Cfg)(V:World):Prop where
 below:Below w.heap.size w V
 cfg:V.heap[w.heap.size]? = some (.cells c.arr 25)
 told:V.heap[w.heap.size+1]? = some (.cells tdZ 41)
theorem qkm.step (h:qkm w c V)(a:Below b V V')(d:w.heap.size+2<=b):qkm w c V' :=
 ⟨h.below.trans (a.mono (by omega)),(a.block _ (by omega)).trans h.cfg,(a.block _ (by omega)).trans h.told⟩
theorem qkm.next (h:qkm w c V)(a:Below V.heap.size V V'):qkm w c V' :=
 h.step a (by have:=ltA h.told;omega)
theorem quJ (w:World)(c:Cfg):qkm w c ((w.alloc (.cells c.arr 25)).alloc (.cells tdZ 41)):=by
 have h:=qac (w.alloc (.cells c.arr 25)) (.cells tdZ 41);rw[World.size_alloc] at h;exact⟨(bwA).alloc (by rw[World.size_alloc];omega) _,(Below.heap_alloc _ _ _ (by rw[World.size_alloc];omega)).trans (qac w _),h⟩

def qwc (w:World)(c:Cfg)(b0 L b:Nat)(l:List UInt8)(e:Ending)(V':World):Prop :=
 ∃en,e=.returned (.int .i64 en)/\qkm w c V'/\qgo c b0 L b (l.take (c.bytes.toNat+1)) V'
theorem qwm (ck:qnq c)(d:GPr c){bs:List UInt8}(h:qkm w c V)(g:qgo c b0 L b (l.take (c.bytes.toNat+1)) V)(j:w.heap.size+2<=b0){ia:Option Addr}{cap:Nat}(i:qa4 V ia bs)(m:ia≠none)(k:bs.length<=cap):Calls prog 22 #[.pointer (some ⟨L,0,none⟩),.slice ia bs.length cap] V (qwc w c b0 L b (l++bs)):=by
 refine(qvp ck d g ia cap bs i (fun e=>absurd e m) k).mono ?_;rintro e n ⟨rfl,a,_,f⟩;rw[qjx] at a;exact⟨_,rfl,h.step f j,a⟩
theorem qvB (h:CzV V b v z)(a:Below V.heap.size V V'):CzV V' b v z:=by
 match z,h with
 |.ok (_,r),h=>exact PoV.same (r:=r) h fun l k=>qgt k a
 |.error _,h=>exact h
theorem qmP (c:Cfg)(gp:qbw c=0->GPr c/\GPw c)(w:World)(U:ql7 w c)(W:qko w.heap.size w)(s:List UInt8)(hs:s.length<=maxLen)(pc:Nat)(ax:1<=pc)(ay:pc<=maxLen+1):Calls prog 10 #[.agg c.arr,.string ⟨s.toArray⟩,.int .i64 pc] w fun e d=>e=.returned (.tuple #[.agg (tdO c s),.bool true])/\Below w.heap.size w d:=by
 have R:Hid (c.arr.size=11):=c.size;have HC:Hid (ql7 w c):=U;have HT:Hid (qko w.heap.size w):=W;have k:Hid (qkm w c ((w.alloc (.cells c.arr 25)).alloc (.cells tdZ 41))):=quJ w c;have B:=qjE c ((w.alloc (.cells c.arr 25)).alloc (.cells tdZ 41)) (U.below k.out.below) (W.below k.out.below).gl;have S:Hid (∀V,qkm w c V->Calls prog 21 #[.agg c.arr] V fun e d=>Below V.heap.size V d/\((¬qbw c=0/\e=.returned (.tuple #[.pointer none,.int .i64 (qbw c)]))\/(qbw c=0/\∃L,e=.returned (.tuple #[.pointer (some ⟨L,0,none⟩),.int .i64 0])/\qgo c V.heap.size L d.heap.size [] d))):=fun V m=>qv8 c V (U.below m.below) (W.below m.below).top;clear U W;by_cases i:qbw c=0
 ·have Z:Hid (qnq c):=qqt i;have O:=qaa (gp i);obtain⟨z,HZ⟩:∃z,Hid (clO c (s.take (c.bytes.toNat+1))=z):=⟨_,rfl⟩
  have x:Hid (tdO c s=tdA (czS z) (czR z) (czE z) (czP z)):=by show _=_;unfold tdO;rw[if_pos i,HZ.out]
  rw[x.out];have A:Hid (∀V,qkm w c V->Calls prog 21 #[.agg c.arr] V fun e d=>∃L,e=.returned (.tuple #[.pointer (some ⟨L,0,none⟩),.int .i64 0])/\qkm w c d/\qgo c V.heap.size L d.heap.size [] d):=fun V m=>(S.out V m).mono (by
   rintro e d ⟨h1,j⟩;rcases j with ⟨j,_⟩|⟨_,L,h3,h4⟩
   ·exact absurd i j
   exact⟨L,h3,m.next h1,h4⟩)
  rw[i] at B;clear x S i gp;go_enter func10,ntmps10
  go_wp2_with (first
   |(refine wpList_load_row rfl 25 _ rfl w.heap.size rfl _ _ _ _ k.out.cfg underlying25 rfl (qaV R.out) ?_)
   |(go_at_call 8;refine B.mono ?_;clear B;rintro e n ⟨rfl,a⟩;have l:Hid (qkm w c n):=k.out.next a;clear a k;have C:=A.out n l.out;clear A;have Y:Hid (w.heap.size+2<=n.heap.size):=(Array.getElem?_eq_some_iff.1 l.out.told).1)
   |(refine wpList_load_row rfl 25 _ rfl w.heap.size rfl _ _ _ _ l.out.cfg underlying25 rfl (qaV R.out) ?_)
   |(go_at_call 21;refine C.mono ?_;clear C;rintro e v ⟨L,rfl,G,aj⟩;have q:Hid (qkm w c v):=G;have ae:Hid (qgo c n.heap.size L v.heap.size [] v):=aj;clear G aj l))
  generalize v.heap.size=b3 at *;generalize n.heap.size=b2 at *
  go_loopg [1] s.length (fun aa av V=>∃D b:List UInt8,av=.string ⟨b.toArray⟩/\Hid (D++b=s)/\Hid (b.length<=aa)/\Hid (qkm w c V)/\Hid (qgo c b2 L b3 (D.take (c.bytes.toNat+1)) V))
  case atStart=>exact⟨[],s,rfl,rfl,Nat.le_refl _,q,by rw[List.take_nil];exact ae⟩
  case round =>
   clear q ae;obtain⟨D,b,rfl,M,HR,P,N⟩:=hrel;have aq:b.length<=maxLen:=by have an:=congrArg List.length M.out;rw[List.length_append] at an;omega
   by_cases aw:(pc:Int)<(b.length:Int)
   ·cases gk with
    |zero=>have:=HR.out;omega
    |succ aa =>
     have ab:pc<=b.length:=by omega
     have ar:=fun w=>qvj b pc ab w;have au:=fun w=>qvU b pc ab w;have ac:(b.take pc).length<=maxLen:=by rw[List.length_take];omega
     obtain⟨K,g⟩:∃K,Hid (b.take pc=K):=⟨_,rfl⟩
     obtain⟨dp,h⟩:∃dp,Hid (b.drop pc=dp):=⟨_,rfl⟩
     rw[g.out] at ac;simp only[g.out] at ar;simp only[h.out] at au;obtain⟨am,V2,ap,a,I,J⟩:=qis wr K ac;have u:=qwm Z.out O.out.1 (P.out.next a) (N.out.step a) Y.out I (by simp) J;clear ab ac I a J P N
     go_wp2_with (first
      |(go_at_call 22;refine u.mono ?_;clear u;rintro e X ⟨en,rfl,H,F⟩;have Q:Hid (qkm w c X):=H;have al:Hid (qgo c b2 L b3 ((D++K).take (c.bytes.toNat+1)) X):=F;clear H F))
     go_roundg aa
     case measure=>omega
     case rel=>exact⟨D++K,dp,rfl,by show _=_;rw[<-g.out,<-h.out,List.append_assoc,List.take_append_drop];exact M.out,by show _<=_;rw[<-h.out,List.length_drop];have:=HR.out;omega,Q,al⟩
   obtain⟨am,V2,ap,a,I,J⟩:=qis wr b aq;have u:=qwm Z.out O.out.1 (P.out.next a) (N.out.step a) Y.out I (by simp) J;rw[M.out] at u;clear I a J P N M HR;obtain⟨f,ag⟩:∃f,Hid (czR z=f):=⟨_,rfl⟩
   obtain⟨p,ad⟩:∃p,Hid (czE z=p):=⟨_,rfl⟩
   obtain⟨r,af⟩:∃r,Hid (czP z=r):=⟨_,rfl⟩
   obtain⟨t,ah⟩:∃t,Hid (czS z=t):=⟨_,rfl⟩
   go_wp2_with (first
    |(go_at_call 22;refine u.mono ?_;clear u;rintro e X ⟨en,rfl,H,F⟩;have Q:Hid (qkm w c X):=H;have T:=qsk Z.out O.out.1 O.out.2 F;clear H F;unfold qpj at T;rw[HZ.out,ag.out,ad.out,af.out] at T)
    |(go_at_call 23;refine T.mono ?_;clear T;rintro e o ⟨va,vn,vc,rfl,ai,_,_,ak⟩;have ao:=qow (qvB ak ((Below.refl o.heap.size o).alloc (Nat.le_refl _) (.cells (qaF f) 39)));rw[ah.out] at ao;have y:Hid (qkm w c (o.alloc (.cells (qaF f) 39))):=(Q.out.step ai Y.out).next bwA;clear ai ak Q)
    |(refine wpList_store_row rfl 39 _ _ rfl o.heap.size (qaF f) rfl rfl 39 _ (qac o _) (qaS f) rfl (qdV f) ?_;rw[World.setRow_alloc_new])
    |(refine wpList_load_row rfl 39 _ rfl o.heap.size rfl _ _ _ _ (qac o _) underlying39 rfl (qaS f) ?_)
    |(refine qak rfl 41 _ rfl _ rfl _ [(0,.string ⟨t.toArray⟩),(1,.agg (qaF f)),(2,.int .i64 p),(3,.int .i64 r)] ?hl (qnK t f p r) ?_;case hl=>simp[go_sem])
    |(refine wpList_store_row rfl 41 _ _ rfl (w.heap.size+1) (tdA t f p r) rfl rfl 41 _ y.out.told (qh3 _ _ _ _) rfl (qmf _ _ _ _) ?_))
   refine bodyPost_ret (qhe results10 _ _ (w.heap.size+1) 41 (tdA t f p r) (0,0) _ rfl (setRow_heap _ _ _ _ _ _ y.out.told) underlying41 rfl (qh3 _ _ _ _) _ rfl) rfl ?_;rw[ag.out,ad.out,af.out,ah.out];exact⟨rfl,qah y.out.below (by omega) _⟩
 have x:Hid (tdO c s=tdA [] (0,0,0,0) (qbw c) 0):=if_neg i;rw[x.out];have A:Hid (∀V,qkm w c V->Calls prog 21 #[.agg c.arr] V fun e d=>e=.returned (.tuple #[.pointer none,.int .i64 (qbw c)])/\qkm w c d):=fun V m=>(S.out V m).mono (by
  rintro e d ⟨h1,j⟩;rcases j with ⟨_,j⟩|⟨j,_⟩
  ·exact⟨j,m.next h1⟩
  exact absurd j i)
 generalize qbw c=E at *;have e1:(E==0)=false:=by simpa using i
 have e2:(E != E)=false:=by simp
 have e3:(E==E)=true:=by simp
 clear x S i gp;go_enter func10,ntmps10
 go_wp2_with (first
  |(refine wpList_load_row rfl 25 _ rfl w.heap.size rfl _ _ _ _ k.out.cfg underlying25 rfl (qaV R.out) ?_)
  |(go_at_call 8;refine B.mono ?_;clear B;rintro e n ⟨rfl,a⟩;have l:Hid (qkm w c n):=k.out.next a;clear a k;have C:=A.out n l.out;clear A)
  |(refine wpList_load_row rfl 25 _ rfl w.heap.size rfl _ _ _ _ l.out.cfg underlying25 rfl (qaV R.out) ?_)
  |(go_at_call 21;refine C.mono ?_;clear C;rintro e v ⟨rfl,G⟩;have q:Hid (qkm w c v):=G;clear G l)
  |(refine qak rfl 41 _ rfl _ rfl _ [(2,.int .i64 E)] ?hl (qnP E) ?_;case hl=>simp[go_sem])
  |(refine wpList_store_row rfl 41 _ _ rfl (w.heap.size+1) (tdA [] (0,0,0,0) E 0) rfl rfl 41 _ q.out.told (qh3 _ _ _ _) rfl (qmf _ _ _ _) ?_))
 refine bodyPost_ret (qhe results10 _ _ (w.heap.size+1) 41 (tdA [] (0,0,0,0) E 0) (0,0) _ rfl (setRow_heap _ _ _ _ _ _ q.out.told) underlying41 rfl (qh3 _ _ _ _) _ rfl) rfl ?_;exact⟨rfl,qah q.out.below (by omega) _⟩

end
end Go.Proofs.YtcokgepdckkjdaaGreatDoor
