import Derived.Test.YtcokgepdckkjdaaGreatDoorRq36
import Derived.Test.YtcokgepdckkjdaaGreatDoorRq40
set_option maxRecDepth 100000
set_option maxHeartbeats 8000000
namespace Go.Proofs.YtcokgepdckkjdaaGreatDoor
open Go.Proofs.Tryz
variable {b k p:Nat}{kl:List (List UInt8)}{ds:List (DataW Unit)}{V V':World}{kv u:Value}{ex:Nat->Prop}{bs:List UInt8}{l lim:Int}
section
open Go.RowKit Go.Lib
def quV (c:Cfg)(A:Nat)(bv:Value):Array Value:=#[.int .i64 c.inn,.int .i64 c.out,.int .i64 c.depth,.int .i64 c.bytes]++(qan c.labels.toNat (qcF c.labels.toNat c.L)++#[.int .i64 c.clr,.int .i64 c.key,.pointer (some ⟨A,0,none⟩)])++#[bv,.slice none 0 0,.bool false]
def qlc (c:Cfg):List (List (Nat×List UInt8)×Int×Int):=(qcA c.pol.data.toList).map enS
theorem qmY (w:World)(a:Option Addr)(i:Nat)(B:List Int)(h:qbV w a B)(A:a=none->B.length=0/\i=0)(G:B.length<=8):Calls prog 37 #[.slice a B.length i] w fun e c=>∃d f,e=.returned (.slice d B.length f)/\qb1 c 3 1 (fun g=>w.heap.size<=g/\g<c.heap.size) (.slice d B.length f) B.length (B.map (Value.int .i64))/\Below w.heap.size w c:=by
 have s:∀{c:World} {v:Value} {n:Nat} {q:List Value},c.ownsRow w.heap.size 3 1 v n q->∃d f,v=.slice d n f/\qb1 c 3 1 (fun g=>w.heap.size<=g/\g<c.heap.size) (.slice d n f) n q:=by
  rintro c v n q ⟨k,m⟩;rcases m with ⟨rfl,rfl⟩|⟨g,i,x,rfl,C,t,D⟩
  ·exact⟨none,0,rfl,k,.inl ⟨rfl,rfl⟩⟩
  exact⟨_,_,rfl,k,.inr ⟨g,i,x,rfl,⟨C,(ltA t)⟩,t,D⟩⟩
 cases a with
 |none =>
  obtain⟨l,F⟩:=A rfl;refine(Tryz.slices_Clone_int_nil B.length i w).mono ?_;rintro e c ⟨rfl,rfl⟩;have p:=List.eq_nil_of_length_eq_zero l;subst p;exact⟨none,0,rfl,⟨rfl,.inl ⟨rfl,rfl⟩⟩,Below.refl _ _⟩
 |some u =>
  by_cases y:B.length=0
  ·have p:=List.eq_nil_of_length_eq_zero y;subst p;refine(Tryz.slices_Clone_int_zero u i w).mono ?_;rintro e c ⟨E,rfl,k,_,m⟩;obtain⟨d,f,rfl,o⟩:=s k;exact⟨d,f,rfl,o,m⟩
  obtain⟨b,off,l,H,z⟩:=h.at_ 0 (by omega);injection l with l;subst l;refine(Tryz.slices_Clone_int b off B.length i B w (Nat.le_refl _) (by omega) (fun j r => ?_)).mono ?_
  ·rw[z j r,List.getD_eq_getElem?_getD,List.getElem?_eq_getElem r];rfl
  rintro e c ⟨E,rfl,k,_,m⟩;rw[List.take_length] at k;obtain⟨d,f,rfl,o⟩:=s k;exact⟨d,f,rfl,o,m⟩
structure GOp (c:Cfg)(W0:World)(L A:Nat)(q:Aut)(sts:List ((Nat->Nat)×Int×Int))(sa:Option Addr)(sc:Nat)(nf mf:Lit->Option Nat)(bv:Value)(V:World):Prop where
 cp:qx1 W0 (qlc c) c.dflt A q sts sa sc nf mf V
 bk:qb1 V 3 1 (fun g=>W0.heap.size<=g/\g<L) bv c.B.length (c.B.map (Value.int .i64))
 bs:∃ba bc,bv=.slice ba c.B.length bc
def qs2 (c:Cfg)(w:World)(e:Ending)(w':World):Prop :=
 Below w.heap.size w w'/\((¬qbw c=0/\e=.returned (.tuple #[.pointer none,.int .i64 (qbw c)]))\/(qbw c=0/\∃W0 L A q sts sa sc nf mf bv,e=.returned (.tuple #[.pointer (some ⟨L,0,none⟩),.int .i64 0])/\w.heap.size<=W0.heap.size/\W0.heap.size<=L/\w'.heap.size=L+1/\w'.heap[L]? = some (.cells (quV c A bv) 101)/\GOp c W0 L A q sts sa sc nf mf bv w'))
theorem qxA {A:Array Value}{O:Array Value}{a:Option Addr}{cap:Nat}(h:A=qbZ O a k cap)(d:O.size=37):∀(j:Nat) (u:Value),O[j]? = some u->A[j]? = some u:=by
 intro j u b;have c:j<37:=by have:=ltA b;omega
 rw[h];unfold qbZ;rw[Array.getElem?_push,if_neg (by omega)];exact b
theorem qwy (n:Nat)(m:Nat->Nat->Bool):(prog.info? 87).map (·.size)=some (qan n m).size:=by rw[qae];kernel_rfl
theorem qqI (c:Cfg)(w:World)(Q:ql7 w c)(m:qlZ w)(ac:qbw c=0->c.B.length<=8):Calls prog 21 #[.agg c.arr] w (qs2 c w):=by
 have HS:=qaa c.size;have W:=qaa Q;have V:=qaa ac;have r:=qaa (qhW w c);have q:=qkO c _ (r.out.cfg Q) (m.below r.out.below);have I:=qaa (qk2 c);clear Q m ac;go_enter func21,ntmps21
 go_wp2_with (first
  |(refine wpList_load_row rfl 25 _ rfl _ rfl _ _ _ _ r.out.box underlying25 rfl (qaV HS.out) ?_)
  |fail)
 refine q.mono ?_;clear q;rintro e d ⟨A,rfl,t,aa⟩;rw[I.out.1,I.out.2];have T:=qaa t.1;have U:=qaa t.2.1;have g:Hid (qcG.size=A.size):=by show _=_;rw[t.1];exact qbc
 have s:=qaa (r.out.step aa);have y:Hid (qwJ w c d.heap.size A (d.alloc (.cells A 90))):=⟨s.out.below.alloc s.out.below.size _,(Below.heap_alloc _ _ _ (ltA s.out.box)).trans s.out.box,qac _ _⟩
 have J:=t.2.2;rw[I.out.1] at J;clear t aa r s;by_cases f:qbw c=0
 ·obtain⟨_,x,sk,R,M,lo,ae⟩:=J f;obtain⟨ra,rc,a0,af⟩:=ae.pru;injection a0 with e1 e2 e3;subst e1;subst e2;subst e3;have aw:A[37]? = some (.slice x (qlc c).length R):=by
   rw[M];unfold qbZ;rw[Array.getElem?_push,qae];rfl
  have ag:=qaa (qxA M (qae _ _));have an:Hid (qdW (d.alloc (.cells A 90)) x (qlc c)):=af.below bwA;have aq:=qoK (qoa f);have ak:=qaa (V.out f);have ah:=qaa f;clear M J ae af V;rw[f];clear f;obtain⟨hn,h8,az⟩:=aq;have al:Hid ((qlc c).length<=16):=hn;have H8:Hid (∀i (h:i<(qlc c).length),(qlc c)[i].1.length<=8):=h8;have aj:Hid (∀i (h:i<(qlc c).length) j (h2:j<(qlc c)[i].1.length),(qlc c)[i].1[j].1<=3/\(qlc c)[i].1[j].2.length<=1000000000):=az
  go_wp2_with (first
   |(refine qch rfl rfl _ rfl d.heap.size rfl ?_)
   |(refine wpList_store_row rfl 90 _ _ rfl d.heap.size A rfl rfl 90 qcG (qac d _) (qbk T.out) g.out U.out ?_;rw[World.setRow_alloc_new]))
  have b:(fun Z:World=>Z.heap[w.heap.size]? = some (.cells c.arr 25)/\Z.heap[d.heap.size]? = some (.cells A 90)) { (d.alloc (.cells A 90)) with drawn:=(d.alloc (.cells A 90)).drawn+1}:=⟨y.out.box,y.out.row⟩
  refine wp_region_held (S:=fun Z=>Z.heap[w.heap.size]? = some (.cells c.arr 25)/\Z.heap[d.heap.size]? = some (.cells A 90)) (by kernel_rfl) ?_;have F:Hid (Below w.heap.size w { (d.alloc (.cells A 90)) with drawn:=(d.alloc (.cells A 90)).drawn+1}):=y.out.below.drew;have ao:Hid (qdW { (d.alloc (.cells A 90)) with drawn:=(d.alloc (.cells A 90)).drawn+1} x (qlc c)):=an.out.below (Below.refl _ _).drew;generalize ({ (d.alloc (.cells A 90)) with drawn:=(d.alloc (.cells A 90)).drawn+1}:World)=W4 at *;generalize d.heap.size=N4 at *;have am:Hid (∀Z:World,Z.heap[N4]? = some (.cells A 90)->∀(j:Nat) (u:Value),(qan c.labels.toNat (qcF c.labels.toNat c.L))[j]? = some u->Z.cell? ⟨N4,0+j,none⟩=some u):=fun Z a j u hu=>by rw[Nat.zero_add];exact(qab a j).trans (ag.out j u hu)
  refine tkH 0 16 (.pointer (some ⟨w.heap.size,6,none⟩)) rfl (by kernel_rfl) (fun _ _ _ h=>h) (fun Z a=>by kernel_rfl) b ?_;refine tkH 1 17 (.int .i64 c.inn) rfl (by kernel_rfl) (fun _ _ _ h=>h) (fun Z a => ?y1) b ?_
  case y1=>(have l:Z.cell? ⟨w.heap.size,6,none⟩=some (.int .i64 c.inn):=qab a.1 6;go_simp)
  refine tkH 2 18 (.pointer (some ⟨w.heap.size,7,none⟩)) rfl (by kernel_rfl) (fun _ _ _ h=>h) (fun Z a=>by kernel_rfl) b ?_;refine tkH 3 19 (.int .i64 c.out) rfl (by kernel_rfl) (fun _ _ _ h=>h) (fun Z a => ?y3) b ?_
  case y3=>(have l:Z.cell? ⟨w.heap.size,7,none⟩=some (.int .i64 c.out):=qab a.1 7;go_simp)
  refine tkH 4 20 (.pointer (some ⟨w.heap.size,8,none⟩)) rfl (by kernel_rfl) (fun _ _ _ h=>h) (fun Z a=>by kernel_rfl) b ?_;refine tkH 5 21 (.int .i64 c.depth) rfl (by kernel_rfl) (fun _ _ _ h=>h) (fun Z a => ?y5) b ?_
  case y5=>(have l:Z.cell? ⟨w.heap.size,8,none⟩=some (.int .i64 c.depth):=qab a.1 8;go_simp)
  refine tkH 6 22 (.pointer (some ⟨w.heap.size,9,none⟩)) rfl (by kernel_rfl) (fun _ _ _ h=>h) (fun Z a=>by kernel_rfl) b ?_;refine tkH 7 23 (.int .i64 c.bytes) rfl (by kernel_rfl) (fun _ _ _ h=>h) (fun Z a => ?y7) b ?_
  case y7=>(have l:Z.cell? ⟨w.heap.size,9,none⟩=some (.int .i64 c.bytes):=qab a.1 9;go_simp)
  refine tkH 8 24 (.agg #[.int .i64 c.depth,.int .i64 c.bytes]) rfl (by kernel_rfl) (fun _ _ _ h=>h) (fun Z a=>by kernel_rfl) b ?_;refine tkH 9 25 (.pointer (some ⟨N4,0,none⟩)) rfl (by kernel_rfl) (fun _ _ _ h=>h) (fun Z a=>by kernel_rfl) b ?_;refine tkH 10 26 (.agg (qan c.labels.toNat (qcF c.labels.toNat c.L))) rfl (by kernel_rfl) (fun _ _ _ h=>h) (fun Z a => ?y10) b ?_
  case y10=>exact qw8 87 (.tmp 25) (by kernel_rfl) N4 0 (by kernel_rfl) (qan c.labels.toNat (qcF c.labels.toNat c.L)) _ (am.out Z a.2) underlying87 (by kernel_rfl) (qwy _ _)
  refine tkH 11 27 (.pointer (some ⟨w.heap.size,4,none⟩)) rfl (by kernel_rfl) (fun _ _ _ h=>h) (fun Z a=>by kernel_rfl) b ?_;refine tkH 12 28 (.int .i64 c.clr) rfl (by kernel_rfl) (fun _ _ _ h=>h) (fun Z a => ?y12) b ?_
  case y12=>(have l:Z.cell? ⟨w.heap.size,4,none⟩=some (.int .i64 c.clr):=qab a.1 4;go_simp)
  refine tkH 13 29 (.pointer (some ⟨w.heap.size,5,none⟩)) rfl (by kernel_rfl) (fun _ _ _ h=>h) (fun Z a=>by kernel_rfl) b ?_;refine tkH 14 30 (.int .i64 c.key) rfl (by kernel_rfl) (fun _ _ _ h=>h) (fun Z a => ?y14) b ?_
  case y14=>(have l:Z.cell? ⟨w.heap.size,5,none⟩=some (.int .i64 c.key):=qab a.1 5;go_simp)
  refine tkH 15 31 (.pointer (some ⟨N4,37,none⟩)) rfl (by kernel_rfl) (fun _ _ _ h=>h) (fun Z a=>by kernel_rfl) b ?_;refine tkH 16 32 (.slice x (qlc c).length R) rfl (by kernel_rfl) (fun _ _ _ h=>h) (fun Z a => ?y16) b ?_
  case y16=>(have l:=(qab a.2 37).trans aw;go_simp)
  refine tkH 17 33 (.pointer (some ⟨w.heap.size,2,none⟩)) rfl (by kernel_rfl) (fun _ _ _ h=>h) (fun Z a=>by kernel_rfl) b ?_;refine tkH 18 34 (.int .i64 c.dflt) rfl (by kernel_rfl) (fun _ _ _ h=>h) (fun Z a => ?y18) b ?_
  case y18=>(have l:Z.cell? ⟨w.heap.size,2,none⟩=some (.int .i64 c.dflt):=qab a.1 2;go_simp)
  refine tkH 21 37 (.pointer (some ⟨w.heap.size,10,none⟩)) rfl (by kernel_rfl) (fun _ _ _ h=>h) (fun Z a=>by kernel_rfl) b ?_;refine tkH 22 38 (.slice c.ba c.B.length c.bcap) rfl (by kernel_rfl) (fun _ _ _ h=>h) (fun Z a => ?y22) b ?_
  case y22=>(have l:Z.cell? ⟨w.heap.size,10,none⟩=some (.slice c.ba c.B.length c.bcap):=qab a.1 10;go_simp)
  refine rdS 19 rfl (by kernel_rfl) (fun K v => ?_);go_simp;refine(qkC W4 x R (qlc c) c.dflt ao.out al.out H8.out aj.out).mono ?_;rintro e w5 ⟨p,a1,a2,ta,tc,nf,mf,rfl,ad⟩;simp only[];have D:=ad.au.below;have X:=qaa ad;have G:=qaa (F.out.trans (D.mono F.out.size));have n:(fun Z:World=>Z.heap[w.heap.size]? = some (.cells c.arr 25)/\Z.heap[N4]? = some (.cells A 90)) w5:=⟨(D.block _ (ltA b.1)).trans b.1,(D.block _ (ltA b.2)).trans b.2⟩
  have ar:=qaa F.out.size;have Y:=qaa D.size;refine v.out _ _ n (fun _ => ?_);refine tkH 20 36 (.agg (qan c.labels.toNat (qcF c.labels.toNat c.L)++#[.int .i64 c.clr,.int .i64 c.key,.pointer (some ⟨p,0,none⟩)])) rfl (by kernel_rfl) (fun _ _ _ h=>h) (fun Z a=>by kernel_rfl) n ?_;refine rdS 23 rfl (by kernel_rfl) (fun K v => ?_);go_simp;refine(qmY w5 c.ba c.bcap c.B ((W.out.below G.out).ints) W.out.bn ak.out).mono ?_;rintro e k ⟨z,C,rfl,ay,O⟩;simp only[];have o:(fun Z:World=>Z.heap[w.heap.size]? = some (.cells c.arr 25)/\Z.heap[N4]? = some (.cells A 90)) k:=⟨(O.block _ (ltA n.1)).trans n.1,(O.block _ (ltA n.2)).trans n.2⟩
  have ap:=qaa ay;have H:=qaa O;refine v.out _ _ o (fun _ => ?_);refine tkH 24 40 (.agg (quV c p (.slice z c.B.length C))) rfl (by kernel_rfl) (fun _ _ _ h=>h) (fun Z a=>by kernel_rfl) o ?_;refine rdS 25 rfl (by kernel_rfl) (fun K v => ?_);go_simp;have P:(fun Z:World=>Z.heap[w.heap.size]? = some (.cells c.arr 25)/\Z.heap[N4]? = some (.cells A 90)) (k.alloc (.cells (quV c p (.slice z c.B.length C)) 101)):=⟨(Below.heap_alloc _ _ _ (ltA o.1)).trans o.1,(Below.heap_alloc _ _ _ (ltA o.2)).trans o.2⟩
  refine v.out _ _ P (fun _ => ?_);refine tkH 26 2 (.pointer (some ⟨k.heap.size,0,none⟩)) rfl (by kernel_rfl) (fun _ _ _ h=>h) (fun Z a=>by kernel_rfl) P ?_;refine tkH 27 3 (.int .i64 0) rfl (by kernel_rfl) (fun _ _ _ h=>h) (fun Z a=>by kernel_rfl) P ?_;refine wpAnyH_done (by kernel_rfl) ?_ _;go_simp;go_wp2
  go_ret2
  have ax:Below k.heap.size k (k.alloc (.cells (quV c p (.slice z c.B.length C)) 101)):=bwA;have ab:=H.out.trans (ax.mono H.out.size);refine⟨G.out.trans (ab.mono G.out.size),.inr ⟨ah.out,W4,k.heap.size,p,a1,a2,ta,tc,nf,mf,.slice z c.B.length C,rfl,ar.out,Nat.le_trans Y.out H.out.size,World.size_alloc _ _,qac k _,⟨{X.out with au:=X.out.au.next ab},?_,_,_,rfl⟩⟩⟩;exact ap.out.same (fun av m=>⟨Nat.le_trans Y.out m.1,m.2⟩) (fun av m=>Below.heap_alloc _ _ _ m.2)
 have HE:=qaa f;have ai:Hid (qs2 c w (.returned (.tuple #[.pointer none,.int .i64 (qbw c)])) (d.alloc (.cells A 90))):=⟨y.out.below,.inl ⟨f,rfl⟩⟩
 generalize qbw c=E at *;generalize qdN c=N at *;have hE:(E==0)=false:=by simpa using HE.out
 go_wp2_with (first
  |(refine qch rfl rfl _ rfl d.heap.size rfl ?_)
  |(refine wpList_store_row rfl 90 _ _ rfl d.heap.size A rfl rfl 90 qcG (qac d _) (qbk T.out) g.out U.out ?_;rw[World.setRow_alloc_new]))
 go_ret2
 exact ai.out

def esZ (kl:List (List UInt8))(ds:List (DataW Unit)):List (Lit×DataW Unit):=(kl.zip ds).map fun x=>(.string x.1,x.2)
theorem q0y (h:kl.length=ds.length)(l:List UInt8)(d:DataW Unit):esZ (kl++[l]) (ds++[d])=esZ kl ds++[(.string l,d)]:=by
 unfold esZ;rw[List.zip_append h,List.map_append];rfl
theorem qzc (h:kl.length=ds.length):(esZ kl ds).length=ds.length:=by
 unfold esZ;rw[List.length_map,List.length_zip];omega
theorem q0T:∀{kl:List (List UInt8)} {ds:List (DataW Unit)},kl.length=ds.length->(esZ kl ds).map q3d=kl.map qyh
 |[],[],_=>rfl
 |[],_::_,h=>by simp at h
 |_::_,[],h=>by simp at h
 |l::kl,d::ds,h=>by
  have a:=q0T (kl:=kl) (ds:=ds) (by simpa using h);unfold esZ at a ⊢;rw[List.zip_cons_cons,List.map_cons,List.map_cons,List.map_cons,a];rfl
theorem q2B {i:Nat}{key:Lit}{d:DataW Unit}(h:(esZ kl ds)[i]? = some (key,d)):ds[i]? = some d/\∃l,key=.string l:=by
 unfold esZ at h;rw[List.getElem?_map] at h
 cases a:(kl.zip ds)[i]? with
 |none=>rw[a] at h;cases h
 |some x =>
  rw[a] at h;injection h with h;injection h with h1 h2;rw[List.getElem?_zip_eq_some] at a;exact⟨by rw[a.2,h2],_,h1.symm⟩
structure qyG (k:Nat)(V:World)(b:Nat)(kv u:Value)(ex:Nat->Prop)(kl:List (List UInt8))(ds:List (DataW Unit)):Prop where
 keys:V.ownsRow b 9 1 kv kl.length (kl.map qyh)
 kids:qyq k V b u (fun j=>some j=kv.ownBlock\/ex j) ds
 len:kl.length=ds.length
 apart:∀g,kv.ownBlock=some g->¬u.ownBlock=some g
 exk:∀g,kv.ownBlock=some g->¬ex g
 exu:∀g,u.ownBlock=some g->¬ex g
theorem q2d (k:Nat)(V:World)(b:Nat)(a:Nat->Prop):qyG k V b qxE qxE a [] []:=⟨World.ownsRow_nil _ _ _ _,qzo _ _ _ _,rfl,(fun g h=>by cases h),(fun g h=>by cases h),(fun g h=>by cases h)⟩
theorem qy2 {t:TypeId}{size n:Nat}{xs:List Value}(h:V.ownsRow b t size u n xs)(l:∀j,u.ownBlock=some j->b<=j->j<V.heap.size->V'.heap[j]? = V.heap[j]?):V'.ownsRow b t size u n xs:=by
 refine⟨h.1,?_⟩;rcases h.2 with i|⟨g,d,f,e,a,c,k⟩
 ·exact .inl i
 exact .inr ⟨g,d,f,e,a,(l g (by rw[e];rfl) a (ltA c)).trans c,k⟩
theorem qyG.next (h:qyG k V b kv u ex kl ds)(t:V.heap.size<=V'.heap.size)(l:∀j,b<=j->j<V.heap.size->¬ex j->V'.heap[j]? = V.heap[j]?):qyG k V' b kv u ex kl ds:=by
 refine⟨qy2 h.keys (fun j e f g=>l j f g (h.exk j e)),?_,h.len,h.apart,h.exk,h.exu⟩;obtain⟨s,f,g⟩:=h.kids;refine⟨s,qy2 f (fun j e o p=>l j o p (h.exu j e)),fun i d q => ?_⟩;obtain⟨a,m,n⟩:=g i d q;exact⟨a,m,n.same (fun j c=>⟨c.1,by have:=c.2.1;omega,c.2.2⟩) (fun j c=>l j c.1 c.2.1 (fun r=>c.2.2.2 (.inr r)))⟩
theorem qyG.other {ex':Nat->Prop}(h:qyG k V b kv u ex kl ds)(o:∀j,ex' j->ex j\/V.heap.size<=j):qyG k V b kv u ex' kl ds:=by
 refine⟨h.keys,?_,h.len,h.apart,fun g e n => ?_,fun g e n => ?_⟩
 ·obtain⟨p,m,s⟩:=h.kids;refine⟨p,m,fun i d t => ?_⟩;obtain⟨a,q,r⟩:=s i d t;refine⟨a,q,r.same (fun j f=>⟨f.1,f.2.1,f.2.2.1,fun l => ?_⟩) (fun _ _=>rfl)⟩;rcases l with l|l
  ·exact f.2.2.2 (.inl l)
  rcases o j l with c|c
  ·exact f.2.2.2 (.inr c)
  have:=f.2.1;omega
 ·rcases o g n with c|c
  ·exact h.exk g e c
  have:=qy0 h.keys e;omega
 obtain⟨p,m,_⟩:=h.kids;rcases o g n with c|c
 ·exact h.exu g e c
 have:=qy0 m e;omega
theorem qyG.map {B:Nat}(h:qyG k V b kv u ex kl ds)(t:B<=b):qxY (k+1) V (fun j=>B<=j/\j<V.heap.size) (.agg (thA 7 0 ⟨#[]⟩ kv u)) (.map (esZ kl ds)):=by
 obtain⟨s,o,p⟩:=h.kids;have hF:∀g,b<=g->g<V.heap.size->B<=g/\g<V.heap.size:=fun g v r=>⟨by omega,r⟩
 refine⟨kv,u,s,rfl,?_,?_,fun i key d q => ?_⟩
 ·rw[qzc h.len,q0T h.len,<-h.len];exact qym h.keys _ hF
 ·rw[qzc h.len];exact qym o _ hF
 obtain⟨e,l,f⟩:=q2B q;obtain⟨a,m,n⟩:=p i d e;exact⟨l,a,f,m,n.same (fun j c=>⟨by have:=c.1;omega,c.2.1⟩) (fun _ _=>rfl)⟩
def q2h (kl:List (List UInt8))(ds:List (DataW Unit))(l:List UInt8)(r:Except (Int×Int) (DataW Unit×Nat)):Except (Int×Int) ((List (List UInt8)×List (Lit×DataW Unit))×Nat):=match r with
 |.error e=>.error e
 |.ok (d,q)=>.ok ((l::kl.reverse,esZ kl ds++[(.string l,d)]),q)
theorem qyY {l:List UInt8}{r r':Except (Int×Int) (DataW Unit×Nat)}(h:qyi bs lim r r'):qyi bs lim (q2h kl ds l r) (q2h kl ds l r'):=by
 rcases h with rfl|⟨q,a,b,c,x,d⟩
 ·exact .inl rfl
 rw[a,d];exact .inr ⟨q,rfl,b,c,_,rfl⟩
theorem q0O {x:UInt8}(d:Lm bs l lim)(hi:InR bs lim p):(qxS bs l p=false/\qaT bs lim [x] p=.error (qr0 bs l p 9))\/(∃c,bs[p]? = some c/\qxS bs l p=true/\¬(p:Int)=lim/\((¬c=x/\qaT bs lim [x] p=.error (qr0 bs l p 9))\/(c=x/\InR bs lim (p+1)/\qaT bs lim [x] p=.ok ((),p+1)))):=by
 rw[qaT]
 cases b:bs[p]? with
 |none=>exact .inl ⟨qxX b,by rw[qyc hi.1 b]⟩
 |some c =>
  simp only[];by_cases a:(p:Int)=lim
  ·rw[if_pos a];exact .inl ⟨qxZ d b a,by rw[qxW d b a]⟩
  rw[if_neg a];refine .inr ⟨c,rfl,qyb d hi b a,a,?_⟩;by_cases e:c=x
  ·rw[if_pos e];exact .inr ⟨e,qxG hi b a,rfl⟩
  rw[if_neg e];exact .inl ⟨e,by rw[qxN d hi b a]⟩
theorem q1F (k:Lm bs l lim){rd:Nat->Except (Int×Int) (DataW Unit×Nat)}(M:∀p:Nat,(p:Int)=lim->p<bs.length->rd p=.error (8,(p:Int)))(hi:InR bs lim p){R:Except (Int×Int) ((List (List UInt8)×List (Lit×DataW Unit))×Nat)}(a:enJ bs lim rd (kl.reverse,esZ kl ds) p=R):(qxS bs l p=false/\R=.error (qr0 bs l p 9))\/∃c,bs[p]? = some c/\qxS bs l p=true/\((¬c.toNat=34/\R=.error (qr0 bs l p 9))\/(c.toNat=34/\InR bs lim (p+1) /\
   ((∃f,qfe bs lim (bs.length+1-(p+1)) (p+1) [] 0=.error f/\R=.error f)\/∃t r,qfe bs lim (bs.length+1-(p+1)) (p+1) [] 0=.ok (t,r)/\InR bs lim r/\p+1<r /\
    ((t∈kl/\R=.error (qr0 bs l (r-1) 12))\/(¬t∈kl/\InR bs lim (skR bs l (bs.length+1-r) r) /\
     ((∃f,qaT bs lim [58] (skR bs l (bs.length+1-r) r)=.error f/\R=.error f)\/∃b,qaT bs lim [58] (skR bs l (bs.length+1-r) r)=.ok ((),b)/\InR bs lim b/\r<b/\InR bs lim (skR bs l (bs.length+1-b) b)/\b<=skR bs l (bs.length+1-b) b/\∀s,qyi bs lim (rd (skR bs l (bs.length+1-b) b)) s->qyi bs lim R (q2h kl ds t s))))))):=by
 unfold enJ qmo at a;rcases q0O (x:=34) k hi with ⟨i,d⟩|⟨c,G,i,O,⟨d,j⟩|⟨d,j,J⟩⟩
 ·rw[d] at a;exact .inl ⟨i,a.symm⟩
 ·rw[j] at a;exact .inr ⟨c,G,i,.inl ⟨fun e=>d (UInt8.toNat_inj.1 (e.trans (by rfl))),a.symm⟩⟩
 rw[J] at a;simp only[] at a;refine .inr ⟨c,G,i,.inr ⟨by rw[d];rfl,j,?_⟩⟩
 cases n:qfe bs lim (bs.length+1-(p+1)) (p+1) [] 0 with
 |error f =>
  rw[n] at a;exact .inl ⟨f,rfl,a.symm⟩
 |ok x =>
  obtain⟨t,r⟩:=x;rw[n] at a;have u:=qyJ _ _ _ _ _ _ j n;have L:=(qet bs lim _ _ _ _ _ _ n).1;refine .inr ⟨t,r,rfl,u,L,?_⟩;simp only[List.mem_reverse] at a;by_cases m:t∈kl
  ·rw[if_pos m] at a;obtain⟨I,rfl⟩:∃I,r=I+1:=⟨r-1,by omega⟩
   refine .inl ⟨m,?_⟩;rw[<-a,Nat.add_sub_cancel,q1R k u];simp only[];congr 2;omega
  rw[if_neg m] at a;simp only[] at a;refine .inr ⟨m,?_⟩;rcases qyV k (bs.length+1-r) r u with ⟨q,y,z,o,H,_⟩|⟨q,y,z,o,H⟩
  ·rw[y] at a;rw[z];simp only[] at a;refine⟨o,?_⟩
   cases w:qaT bs lim [58] q with
   |error f =>
    rw[w] at a;exact .inl ⟨f,rfl,a.symm⟩
   |ok x =>
    obtain⟨_,b⟩:=x;rw[w] at a;obtain⟨N,A⟩:=qyr _ _ _ o w;simp only[List.length_cons,List.length_nil] at N;refine .inr ⟨b,rfl,A,by omega,?_⟩;simp only[] at a;rcases qyV k (bs.length+1-b) b A with ⟨h,B,C,D,E,_⟩|⟨h,B,C,D,E⟩
    ·rw[B] at a;rw[C];refine⟨D,E,fun s v => ?_⟩;have g:=qyY (kl:=kl) (ds:=ds) (l:=t) v;have e:q2h kl ds t (rd h)=R:=by
      rw[<-a];simp only[];unfold q2h
      cases rd h with
      |error f=>rfl
      |ok x=>rfl
     rw[e] at g;exact g
    rw[B] at a;rw[C];refine⟨⟨by omega,by omega⟩,by have:=A.2;omega,fun s v => ?_⟩;have g:=qyY (kl:=kl) (ds:=ds) (l:=t) v;have e:q2h kl ds t (rd h)=R:=by
     rw[<-a,M h D E];rfl
    rw[e] at g;exact g
  rw[y] at a;rw[z];refine⟨⟨by omega,by omega⟩,.inl ⟨(8,(q:Int)),?_,a.symm⟩⟩;obtain⟨F,K⟩:∃F,bs[q]? = some F:=⟨_,List.getElem?_eq_getElem H⟩
  rw[qaT,K];simp only[];rw[if_pos o]

end
end Go.Proofs.YtcokgepdckkjdaaGreatDoor
