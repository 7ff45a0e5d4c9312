import Derived.Test.YtcokgepdckkjdaaGreatDoorRq28
import Derived.Test.YtcokgepdckkjdaaGreatDoorRq29
set_option maxRecDepth 100000
set_option maxHeartbeats 8000000
namespace Go.Proofs.YtcokgepdckkjdaaGreatDoor
open Go.Proofs.Tryz
variable {A:Nat}{q:Aut}{sv:Value}{W:World}
section
open Go.RowKit
theorem qlG.of_below {W':World}(h:Below W.heap.size W W'):qlG A q sv W W':=⟨h.size,fun j a _ _ _ _=>h.block j a⟩
theorem qlG.trans {V X:World}(h:qlG A q sv W V)(g:qlG A q sv V X):qlG A q sv W X :=
 ⟨Nat.le_trans h.size g.size,fun j e a b c d=>(g.block j (Nat.lt_of_lt_of_le e h.size) a b c d).trans (h.block j e a b c d)⟩
def qxy (W0:World)(A:Nat)(q:Aut)(sts:List ((Nat->Nat)×Int×Int))(sv:Value)(P:Nat->Nat)(x mn:Nat)(W:World)(e:Ending)(W':World):Prop :=
 ∃(i:Nat) (sts':List ((Nat->Nat)×Int×Int)) (sa':Option Addr) (sc':Nat) (nf':Lit->Option Nat) (mn':Nat) (mf':Lit->Option Nat),e=.returned (.int .i64 i)/\qcj W0 A q sts' (.slice sa' sts'.length sc') nf' mn' mf' W'/\qtn q sts' mf'/\mn'<=mn+1/\(∀(j:Nat) (x:(Nat->Nat)×Int×Int),sts[j]? = some x->sts'[j]? = some x)/\sts'.length<=sts.length+1/\∃t Y,sts'[i]? = some t/\WdY q.rs.length q.st (qhV q.st (q.tk x) P q.rs.length) Y/\(∀r,r<16->t.1 r=Y r)/\qlG A q sv W W'/\qsH sv (.slice sa' sts'.length sc') W
theorem qoJ (w:World)(A:Nat)(q:Aut)(d:List ((Nat->Nat)×Int×Int))(G:Option Addr)(o:Nat)(C:Lit->Option Nat)(n:Nat)(m:Lit->Option Nat)(W:World)(h:qcj w A q d (.slice G d.length o) C n m W)(a7:qtn q d m)(a9:d.length<100000)(bl:n<100000)(f:Nat)(s:(Nat->Nat)×Int×Int)(N:d[f]? = some s)(key:List UInt8)(F:Bool)(hb:key.length<=maxLen)(x:Nat)(hx:qlM q.lf key F=x)(hxL:x<q.L)(l:Lit)(hl:keyOf prog 293 (.agg (mvA f x))=some l)(hi:m l=none):Calls prog 162 #[.pointer (some ⟨A,0,none⟩),.int .i64 f,.agg #[.string ⟨key.toArray⟩,.bool F]] W (qxy w A q d (.slice G d.length o) s.1 x n W):=by
 have HA:Hid (qcj w A q d (.slice G d.length o) C n m (W.alloc (.cells #[.string ⟨key.toArray⟩,.bool F] 278))):=h.next bwA
 have HW:Hid (Below W.heap.size W (W.alloc (.cells #[.string ⟨key.toArray⟩,.bool F] 278))):=bwA;have cL:=qfa w A q d _ C n m _ HA.out key F hb;rw[hx] at cL;have ap:=qaa a7;go_enter func162,ntmps162
 go_wp2_with (first
  |(go_at_call 176;refine cL.mono ?_;rintro e c ⟨rfl,z⟩;have D:=qaa (HA.out.next z);have ag:=qaa (HW.out.trans (z.mono HW.out.size))))
 have O:Hid (qcj w A q d (.slice G d.length o) C n m (c.alloc (.cells #[.int .i64 f,.int .i64 x] 293))):=D.out.next bwA
 have ae:Hid ((c.alloc (.cells #[.int .i64 f,.int .i64 x] 293)).heap[c.heap.size]? = some (.cells (mvA f x) 293)):=qac _ _;have ao:Hid (∀g,(Value.slice G d.length o).ownBlock=some g->g<c.heap.size):=fun g e=>qjA D.out.states e;have H:Hid (A<c.heap.size/\q.nb<c.heap.size/\q.mb<c.heap.size):=⟨(ltA D.out.row),D.out.numbers.lt,D.out.moves.lt⟩
 have ar:Hid (Below W.heap.size W (c.alloc (.cells #[.int .i64 f,.int .i64 x] 293))):=ag.out.alloc ag.out.size _;generalize c.alloc (.cells #[.int .i64 f,.int .i64 x] 293)=V0 at *;refine rgn (S:=fun Z=>Z.cell? ⟨A,22,none⟩=some (.map (some q.mb))/\Z.heap[c.heap.size]? = some (.cells (mvA f x) 293)/\qcW Z 293 q.mb n m) (⟨qab O.out.row 22,ae.out,O.out.moves⟩) (by kernel_rfl) ?_;intro b;refine tkH 0 16 (.pointer (some ⟨A,0,none⟩)) rfl (by kernel_rfl) (fun _ _ _ h=>h) (fun Z a=>by kernel_rfl) b ?_;refine tkH 1 17 (.pointer (some ⟨A,0,none⟩)) rfl (by kernel_rfl) (fun _ _ _ h=>h) (fun Z a=>by kernel_rfl) b ?_;refine tkH 2 18 (.pointer (some ⟨A,22,none⟩)) rfl (by kernel_rfl) (fun _ _ _ h=>h) (fun Z a=>by kernel_rfl) b ?_;refine tkH 3 19 (.map (some q.mb)) rfl (by kernel_rfl) (fun _ _ _ h=>h) (fun Z a => ?y3) b ?_
 case y3=>(have z1:=a.1;go_simp)
 refine tkH 4 20 (.agg (mvA f x)) rfl (by kernel_rfl) (fun _ _ _ h=>h) (fun Z a => ?y4) b ?_
 case y4=>exact qix 293 (.tmp 7) rfl c.heap.size rfl _ _ _ _ a.2.1 underlying293 rfl (by kernel_rfl)
 refine tkH 5 21 (.tuple #[.int .i64 0,.bool false]) rfl (by kernel_rfl) (fun _ _ _ h=>h) (fun Z a => ?y5) b ?_
 case y5=>(have z2:=qdz a.2.2 mvK underlying126 hl;rw[hi] at z2;go_simp)
 refine tkH 6 15 (.tuple #[.int .i64 0,.bool false]) rfl (by kernel_rfl) (fun _ _ _ h=>h) (fun Z a=>by kernel_rfl) b ?_;refine tkH 7 22 (.int .i64 0) rfl (by kernel_rfl) (fun _ _ _ h=>h) (fun Z a=>by kernel_rfl) b ?_;refine tkH 8 23 (.bool false) rfl (by kernel_rfl) (fun _ _ _ h=>h) (fun Z a=>by kernel_rfl) b ?_;refine tkH 9 8 (.int .i64 0) rfl (by kernel_rfl) (fun _ _ _ h=>h) (fun Z a=>by kernel_rfl) b ?_;refine tkH 10 9 (.bool false) rfl (by kernel_rfl) (fun _ _ _ h=>h) (fun Z a=>by kernel_rfl) b ?_;refine wpAnyH_done (by kernel_rfl) ?_ _;go_simp;have P:=qaa (O.out.next (Below.refl _ _).drew);have af:Hid ((World.drew V0).heap[c.heap.size]? = some (.cells (mvA f x) 293)):=ae.out;have au:=qaa (ar.out.drew);generalize World.drew V0=V at *;obtain⟨g,bg,ba,bi,bh,hc⟩:=P.out.state_at N;injection ba with J _ T;subst J;subst T;have ax:V.cell? ⟨A,20,none⟩=some (.slice (some ⟨g,0,none⟩) d.length o):=qab P.out.row 20;have d1:V.cell? ⟨c.heap.size,1,none⟩=some (.int .i64 x):=qab af.out 1;have bj:(f:Int)<(d.length:Int):=by have:=ltL N;omega
 have HC:Hid (∀(j:Nat) (u:Value),(plA s.1)[j]? = some u->V.cell? ⟨g,f*18+j,none⟩=some u):=fun j u hu=>hc j u (by
  have hj:=ltA hu;unfold stA;rw[Array.getElem?_append_left hj];exact hu)
 go_wp2;have b:(fun Z:World=>Z.heap[c.heap.size]? = some (.cells (mvA f x) 293)) {V with drawn:=V.drawn+1}:=af.out;have v:Hid (qcj w A q d (.slice (some ⟨g,0,none⟩) d.length o) C n m {V with drawn:=V.drawn+1}):=P.out.next (Below.refl _ _).drew
 have am:Hid (∀(j:Nat) (u:Value),(plA s.1)[j]? = some u->({V with drawn:=V.drawn+1}:World).cell? ⟨g,f*18+j,none⟩=some u):=HC.out;have bf:({V with drawn:=V.drawn+1}:World).cell? ⟨A,20,none⟩=some (.slice (some ⟨g,0,none⟩) d.length o):=ax;have cA:=qoX {V with drawn:=V.drawn+1} A q.ra q.rc q.rs.length q.st q.tb q.L q.tc q.tk v.out.bits.1 v.out.bits.2 v.out.few.1 v.out.auR v.out.auT s.1 (v.out.here f s N).2 x hxL;refine wp_region_held (S:=fun Z=>Z.heap[c.heap.size]? = some (.cells (mvA f x) 293)) (by kernel_rfl) ?_;have ah:Hid (Below W.heap.size W {V with drawn:=V.drawn+1}):=au.out.drew;generalize ({V with drawn:=V.drawn+1}:World)=V1 at *;refine tkH 0 26 (.pointer (some ⟨A,0,none⟩)) rfl (by kernel_rfl) (fun _ _ _ h=>h) (fun Z a=>by kernel_rfl) b ?_;refine tkH 1 27 (.pointer (some ⟨A,0,none⟩)) rfl (by kernel_rfl) (fun _ _ _ h=>h) (fun Z a=>by kernel_rfl) b ?_;refine tkH 2 28 (.pointer (some ⟨A,0,none⟩)) rfl (by kernel_rfl) (fun _ _ _ h=>h) (fun Z a=>by kernel_rfl) b ?_;refine tkH 3 29 (.pointer (some ⟨A,0,none⟩)) rfl (by kernel_rfl) (fun _ _ _ h=>h) (fun Z a=>by kernel_rfl) b ?_;refine tkH 4 30 (.pointer (some ⟨A,20,none⟩)) rfl (by kernel_rfl) (fun _ _ _ h=>h) (fun Z a=>by kernel_rfl) b ?_;refine tkH 6 32 (.int .i64 f) rfl (by kernel_rfl) (fun _ _ _ h=>h) (fun Z a=>by kernel_rfl) b ?_;refine tkH 10 36 (.pointer (some ⟨c.heap.size,1,none⟩)) rfl (by kernel_rfl) (fun _ _ _ h=>h) (fun Z a=>by kernel_rfl) b ?_;refine tkH 11 37 (.int .i64 x) rfl (by kernel_rfl) (fun _ _ _ h=>h) (fun Z a => ?y11) b ?_
 case y11=>(have z1:Z.cell? ⟨c.heap.size,1,none⟩=some (.int .i64 x):=qab a 1;go_simp)
 refine rdS 5 rfl (by kernel_rfl) (fun K k => ?_);go_simp;refine k.out _ _ b (fun _ => ?_);refine rdS 7 rfl (by kernel_rfl) (fun K k => ?_);go_simp;refine k.out _ _ b (fun _ => ?_);refine rdS 8 rfl (by kernel_rfl) (fun K k => ?_);go_simp;refine k.out _ _ b (fun _ => ?_);refine rdS 9 rfl (by kernel_rfl) (fun K k => ?_);refine ifw (by kernel_rfl) ?_;refine qhm 129 _ rfl g (f*18) rfl (plA s.1) _ am.out underlying129 rfl (qbh s.1) ?_;refine k.out _ _ b (fun _ => ?_);refine rdS 12 rfl (by kernel_rfl) (fun K k => ?_);go_simp;refine cA.mono ?_;rintro e w4 ⟨⟨Y,rfl,hY⟩,z⟩;simp only[];have R:=qaa hY;have ak:=qaa (v.out.next z);have X:(fun Z:World=>Z.heap[c.heap.size]? = some (.cells (mvA f x) 293)) w4:=(z.block _ (ltA b)).trans b;refine k.out _ _ X (fun _ => ?_);have ai:Hid (qlG A q (.slice (some ⟨g,0,none⟩) d.length o) W w4):=qlG.of_below (ah.out.trans (z.mono ah.out.size));refine rdS 13 rfl (by kernel_rfl) (fun K k => ?_);go_simp;refine(qgn w A q d _ o C n m w4 ak.out Y R.out.2.2 a9).mono ?_;rintro e w6 ⟨i,ac,bd,be,bc,rfl,hF,az,ay,a8,a6,t,ht,bb⟩;simp only[];have al:=qaa ay;have r:(fun Z:World=>Z.heap[c.heap.size]? = some (.cells (mvA f x) 293)) w6:=(hF.block _ (ltA X) (fun e=>by have:=ao.out _ e.symm;omega) (by have:=H.out.1;omega) (by have:=H.out.2.1;omega) (by have:=H.out.2.2;omega)).trans X;have I:=qaa a8;have E:Hid (ac[i]? = some t/\∀ab,ab<16->t.1 ab=Y ab):=⟨ht,bb⟩
 refine k.out _ _ r (fun _ => ?_);have aq:=qaa (az.mono ai.out.size);have av:=qaa (ai.out.trans hF);refine tkH 14 8 (.int .i64 i) rfl (by kernel_rfl) (fun _ _ _ h=>h) (fun Z a=>by kernel_rfl) r ?_;refine wpAnyH_done (by kernel_rfl) ?_ _;go_simp;go_wp2;have Q:=qaa (al.out.next (Below.refl _ _).drew);have bk:=ltL E.out.1;obtain⟨w7,bm,a5,M⟩:=qly Q.out.moves mvK underlying126 (by omega) hl i (by omega);obtain⟨B,J,e2⟩:∃B:Lit->Option Nat,B l=some i/\∀y,y≠l->B y=m y:=by
  have:=Classical.propDecidable;exact⟨fun y=>if y=l then some i else m y,if_pos rfl,fun y hh=>if_neg hh⟩
 have ad:=qaa (Q.out.moved M (a5 B J e2));have an:Hid (qtn q ac B):=by
  intro f2 x2 l2 k2 aj aa;by_cases e:l2=l
  ·subst e;have T:=Option.some.inj (J.symm.trans aa);have U:=qsm.inj aj hl;injection U with U;have e5:f2=f/\x2=x:=by
    have:=congrArg Array.toList U;simp[mvA] at this;omega
   rw[e5.1,e5.2,<-T];exact⟨s,t,Y,I.out _ _ N,E.out.1,R.out,E.out.2⟩
  rw[e2 l2 e] at aa;obtain⟨s2,t2,Y2,a1,a2,a3,a4⟩:=ap.out f2 x2 l2 k2 aj aa;exact⟨s2,t2,Y2,I.out _ _ a1,I.out _ _ a2,a3,a4⟩
 have p:(fun Z:World=>Z.cell? ⟨A,22,none⟩=some (.map (some q.mb))/\Z.heap[c.heap.size]? = some (.cells (mvA f x) 293)) {w6 with drawn:=w6.drawn+1}:=⟨qab Q.out.row 22,r⟩
 have a0:(fun Z:World=>Z.cell? ⟨A,22,none⟩=some (.map (some q.mb))/\Z.heap[c.heap.size]? = some (.cells (mvA f x) 293)) w7:=⟨qab ad.out.row 22,(M.block c.heap.size (ltA p.2) (by have:=H.out.2.2;simp;omega)).trans p.2⟩
 have aw:=qaa (av.out.trans ⟨M.size,fun j hj _ _ _ hn=>M.block j hj (by simpa using hn)⟩);refine wp_region_held (S:=fun Z=>Z.cell? ⟨A,22,none⟩=some (.map (some q.mb))/\Z.heap[c.heap.size]? = some (.cells (mvA f x) 293)) (by kernel_rfl) ?_;refine tkH 0 40 (.pointer (some ⟨A,0,none⟩)) rfl (by kernel_rfl) (fun _ _ _ h=>h) (fun Z a=>by kernel_rfl) p ?_;refine tkH 1 41 (.pointer (some ⟨A,0,none⟩)) rfl (by kernel_rfl) (fun _ _ _ h=>h) (fun Z a=>by kernel_rfl) p ?_;refine tkH 2 42 (.pointer (some ⟨A,22,none⟩)) rfl (by kernel_rfl) (fun _ _ _ h=>h) (fun Z a=>by kernel_rfl) p ?_;refine tkH 3 43 (.map (some q.mb)) rfl (by kernel_rfl) (fun _ _ _ h=>h) (fun Z a => ?y3) p ?_
 case y3=>(have z1:=a.1;go_simp)
 refine tkH 4 44 (.agg (mvA f x)) rfl (by kernel_rfl) (fun _ _ _ h=>h) (fun Z a => ?y4) p ?_
 case y4=>exact qix 293 (.tmp 7) rfl c.heap.size rfl _ _ _ _ a.2 underlying293 rfl (by kernel_rfl)
 refine tkH 5 45 (.int .i64 i) rfl (by kernel_rfl) (fun _ _ _ h=>h) (fun Z a=>by kernel_rfl) p ?_;refine rdS 6 rfl (by kernel_rfl) (fun K k => ?_);go_simp;refine k.out _ _ a0 (fun _ => ?_);refine wpAnyH_done (by kernel_rfl) ?_ _;go_simp;go_wp2;go_ret;exact⟨i,ac,bd,be,bc,n+1,B,rfl,ad.out,an.out,Nat.le_refl _,I.out,a6,t,Y,E.out.1,R.out,E.out.2,aw.out,aq.out⟩
theorem qt2 (d:World)(A:Nat)(q:Aut)(a:List ((Nat->Nat)×Int×Int))(k:Option Addr)(m:Nat)(j:Lit->Option Nat)(c:Nat)(b:Lit->Option Nat)(W:World)(h:qcj d A q a (.slice k a.length m) j c b W)(p:qtn q a b)(F:a.length<100000)(E:c<100000)(f:Nat)(s:(Nat->Nat)×Int×Int)(r:a[f]? = some s)(key:List UInt8)(g:Bool)(v:key.length<=maxLen)(x:Nat)(w:qlM q.lf key g=x)(hxL:x<q.L)(H:q.L<=100000):Calls prog 162 #[.pointer (some ⟨A,0,none⟩),.int .i64 f,.agg #[.string ⟨key.toArray⟩,.bool g]] W (qxy d A q a (.slice k a.length m) s.1 x c W):=by
 have I:=ltL r;obtain⟨l,o⟩:=qwx f x (by omega) (by omega)
 cases n:b l with
 |none=>exact qoJ d A q a k m j c b W h p F E f s r key g v x w hxL l o n
 |some i =>
  refine(qmt d A q a _ j c b W h f key g v x w l o i n).mono ?_;rintro e G ⟨rfl,u⟩;obtain⟨J,t,Y,y,z,B,C⟩:=p f x l i o n;have e:=Option.some.inj (r.symm.trans y);subst e;exact⟨i,a,k,m,j,c,b,rfl,h.next u,p,Nat.le_succ _,fun _ _ D=>D,Nat.le_succ _,t,Y,z,B,C,qlG.of_below u,.inl rfl⟩

end
section
open Go.RowKit Go.Shelf
def qxz (c:Cfg)(A:Array Value)(w':World):Prop:=A.size=38/\A.all (·.oneCell')=true/\(qhk c=0->qbx c.labels c.L=true/\∃a k cap,A=qbZ (qan c.labels.toNat (qcF c.labels.toNat c.L)) a k cap/\∃lo',PrB w' lo' (.slice a k cap) ((qcA c.pol.data.toList).map enS))
theorem qlB (c:Cfg)(a:World)(h:¬qhk c=0):qxz c qcG a:=⟨qbc,qd2,fun e=>absurd e h⟩
def qw7 (c:Cfg)(w:World)(e:Ending)(w':World):Prop:=∃A,e=.returned (.tuple #[.agg A,.int .i64 (qhk c),.int .i64 (qnn c)])/\qxz c A w'/\Below w.heap.size w w'
def qxx (n:Nat)(s:ByteArray):Int:=qez n s.data.toList
def PoK (n:Nat)(s:ByteArray)(w:World)(a:Option Addr)(m cap:Nat)(w':World):Prop:=qxx n s=0->PrB w' w.heap.size (.slice a m cap) ((qcA s.data.toList).map enS)
theorem qmR (s:ByteArray)(n:Nat)(w:World)(h:qlZ w):Calls prog 59 #[.string s,.int .i64 n] w fun e c=>∃a m b,e=.returned (.tuple #[.slice a m b,.int .i64 (qez n s.data.toList),.int .i64 (qka n s.data.toList)])/\Below w.heap.size w c/\PoK n s w a m b c:=by
 refine(qkL s n w h).mono ?_;rintro e c ⟨a,m,b,d,f,g⟩;exact⟨a,m,b,d,f,g⟩
theorem qkO (c:Cfg)(w:World)(y:ql7 w c)(U:qlZ w):Calls prog 35 #[.agg c.arr] w (qw7 c w):=by
 have Y:=qaa y;have HG:=qaa U;have HS:=qaa c.size;have A:=qaa (qsL w c);have hL:c.L.length<=maxLen:=by have:=y.eb;unfold maxLen;omega
 have af:c.B.length<=maxLen:=by have:=y.bb;unfold maxLen;omega
 have N:Calls prog 56 #[.agg c.arr] ((w.alloc (.cells c.arr 25)).alloc (.cells qcG 90)) fun e w'=>e=.returned (.tuple #[.agg (roA c.labels c.L c.dflt c.clr),.int .i64 (roE c.labels c.L c.dflt c.clr)])/\Below ((w.alloc (.cells c.arr 25)).alloc (.cells qcG 90)).heap.size ((w.alloc (.cells c.arr 25)).alloc (.cells qcG 90)) w' :=
  qiE c.arr c.labels c.L c.ea c.ecap c.dflt c.clr rfl rfl rfl rfl hL _ (y.edges.below A.out.below)
 have F:(roA c.labels c.L c.dflt c.clr).size=37:=by unfold roA;split<;>exact qae _ _
 have R:(roA c.labels c.L c.dflt c.clr).all (·.oneCell')=true:=by unfold roA;split<;>exact qa5 _ _
 have k:=qaa F;have p:=qaa R;have v:Hid (qaB.size=(roA c.labels c.L c.dflt c.clr).size):=by show _=_;rw[F];exact qae _ _
 have K:Hid (roE c.labels c.L c.dflt c.clr=0->qbx c.labels c.L=true/\roA c.labels c.L c.dflt c.clr=qan c.labels.toNat (qcF c.labels.toNat c.L)):=qv7;have G:Hid (¬roE c.labels c.L c.dflt c.clr=0->qhk c=roE c.labels c.L c.dflt c.clr/\qnn c=0):=qxs;have J:Hid (roE c.labels c.L c.dflt c.clr=0->qhk c=(if qf4 c.inn c.out c.depth c.bytes=false then 4 else if qaG c.B=false then 5 else qez c.labels.toNat c.pol.data.toList)/\qnn c=(if qf4 c.inn c.out c.depth c.bytes=false then 0 else if qaG c.B=false then 0 else qka c.labels.toNat c.pol.data.toList)):=fun h=>by
  refine⟨?_,?_⟩
  ·unfold qhk;rw[if_neg (fun z=>z h)]
  unfold qnn;rw[if_neg (fun z=>z h)]
 clear F R y U;generalize roA c.labels c.L c.dflt c.clr=O at *;generalize roE c.labels c.L c.dflt c.clr=E0 at *;go_enter func35,ntmps35
 go_wp2_with (first
  |(refine qch rfl rfl _ rfl (w.heap.size+1) ?hN ?_;case hN=>(simp only[World.size_alloc];done))
  |(refine wpList_load_row rfl 25 _ rfl _ rfl _ _ _ _ A.out.box underlying25 rfl (qaV HS.out) ?_)
  |fail)
 refine N.mono ?_;clear N;rintro e a ⟨rfl,P⟩;have M:=qaa (A.out.step P);clear P A;have d:Hid (qsZ w c (a.alloc (.cells O 87))):=M.out.step bwA;have W:Hid ((a.alloc (.cells O 87)).heap[a.heap.size]? = some (.cells O 87)):=qac _ _;by_cases E:E0=0
 ·subst E;obtain⟨V,S⟩:=K.out rfl;obtain⟨n,s⟩:=J.out rfl;have H:=qaa S;have I:=qaa V;have h6:(a.alloc (.cells O 87)).cell? ⟨w.heap.size,6,none⟩=some (.int .i64 c.inn):=d.out.cell 6;have h7:(a.alloc (.cells O 87)).cell? ⟨w.heap.size,7,none⟩=some (.int .i64 c.out):=d.out.cell 7;have h8:(a.alloc (.cells O 87)).cell? ⟨w.heap.size,8,none⟩=some (.int .i64 c.depth):=d.out.cell 8;have h9:(a.alloc (.cells O 87)).cell? ⟨w.heap.size,9,none⟩=some (.int .i64 c.bytes):=d.out.cell 9;have ai:(a.alloc (.cells O 87)).cell? ⟨w.heap.size,10,none⟩=some (.slice c.ba c.B.length c.bcap):=d.out.cell 10;have h3:(a.alloc (.cells O 87)).cell? ⟨w.heap.size,3,none⟩=some (.string c.pol):=d.out.cell 3;have h0:(a.alloc (.cells O 87)).cell? ⟨w.heap.size,0,none⟩=some (.int .i64 c.labels):=d.out.cell 0;have t:=fun ad=>qjH c.inn c.out c.depth c.bytes ad;clear K J G S V;cases l:qf4 c.inn c.out c.depth c.bytes
  ·have j:Hid (qhk c=4):=by show _=_;rw[n,l];rfl
   have m:Hid (qnn c=0):=by show _=_;rw[s,l];rfl
   have o:Hid (¬qhk c=0):=by show ¬_;rw[j.out];decide
   rw[l] at t;clear n s l
   go_wp2_with (first
    |(go_at_call 57;refine(t _).mono ?_;rintro e u ⟨rfl,rfl⟩)
    |(refine qas rfl rfl _ rfl a.heap.size rfl ?_)
    |(refine wpList_store_row rfl 87 _ _ rfl a.heap.size O rfl rfl 87 qaB (qac a _) (qar k.out) v.out p.out ?_;rw[World.setRow_alloc_new])
    |(refine qak rfl 90 _ rfl _ rfl _ [] ?hl qdx ?_;case hl=>simp)
    |(refine wpList_store_row rfl 90 _ _ rfl (w.heap.size+1) qcG rfl rfl 90 qcG d.out.res (qbk qbc) rfl qd2 ?_))
   refine bodyPost_ret (qba results35 _ _ (w.heap.size+1) 90 qcG (0,0) _ rfl (setRow_heap _ _ qcG _ _ _ d.out.res) underlying90 rfl (qbk qbc) (.int .i64 4) (.int .i64 0) rfl rfl) rfl ⟨qcG,by rw[j.out,m.out],qlB c _ o.out,qah d.out.below (by omega) _⟩
  rw[l] at t;have x:=qhL c.ba c.bcap c.B af (a.alloc (.cells O 87)) (Y.out.ints.below d.out.below);cases r:qaG c.B
  ·have j:Hid (qhk c=5):=by show _=_;rw[n,l,r];rfl
   have m:Hid (qnn c=0):=by show _=_;rw[s,l,r];rfl
   have o:Hid (¬qhk c=0):=by show ¬_;rw[j.out];decide
   rw[r] at x;clear n s l r
   go_wp2_with (first
    |(go_at_call 57;refine(t _).mono ?_;rintro e u ⟨rfl,rfl⟩)
    |(go_at_call 58;refine x.mono ?_;rintro e u ⟨rfl,rfl⟩)
    |(refine qas rfl rfl _ rfl a.heap.size rfl ?_)
    |(refine wpList_store_row rfl 87 _ _ rfl a.heap.size O rfl rfl 87 qaB (qac a _) (qar k.out) v.out p.out ?_;rw[World.setRow_alloc_new])
    |(refine qak rfl 90 _ rfl _ rfl _ [] ?hl qdx ?_;case hl=>simp)
    |(refine wpList_store_row rfl 90 _ _ rfl (w.heap.size+1) qcG rfl rfl 90 qcG d.out.res (qbk qbc) rfl qd2 ?_))
   refine bodyPost_ret (qba results35 _ _ (w.heap.size+1) 90 qcG (0,0) _ rfl (setRow_heap _ _ qcG _ _ _ d.out.res) underlying90 rfl (qbk qbc) (.int .i64 5) (.int .i64 0) rfl rfl) rfl ⟨qcG,by rw[j.out,m.out],qlB c _ o.out,qah d.out.below (by omega) _⟩
  rw[r] at x;have D:=qmR c.pol c.labels.toNat (a.alloc (.cells O 87)) (HG.out.below d.out.below);rw[(qdO I.out).1] at D;have j:Hid (qhk c=qez c.labels.toNat c.pol.data.toList):=by show _=_;rw[n,l,r];rfl
  have m:Hid (qnn c=qka c.labels.toNat c.pol.data.toList):=by show _=_;rw[s,l,r];rfl
  have b:Hid (qez c.labels.toNat c.pol.data.toList=0->qka c.labels.toNat c.pol.data.toList=0):=fun h=>by
   unfold qez at h;unfold qka;split at h
   ·cases h
   next z=>rw[if_neg z]
  have Z:Hid (qxx c.labels.toNat c.pol=qez c.labels.toNat c.pol.data.toList):=rfl;generalize qez c.labels.toNat c.pol.data.toList=E1 at *;generalize qka c.labels.toNat c.pol.data.toList=N1 at *;by_cases Q:E1=0
  ·subst Q;have ag:=b.out rfl;subst ag;have X:Hid (∀f i g,prog.built 90 [(0,.agg O),(1,.slice f i g)]=some (qbZ O f i g)):=fun f i g=>by rw[H.out];exact qoc _ _ _ _ _
   have ac:Hid (∀f i g,qcG.size=(qbZ O f i g).size):=fun f i g=>by rw[qcd k.out];exact qbc
   have ah:a.heap.size<(a.alloc (.cells O 87)).heap.size:=by simp
   go_wp2_with (first
    |(go_at_call 57;refine(t _).mono ?_;rintro e u ⟨rfl,rfl⟩)
    |(go_at_call 58;refine x.mono ?_;rintro e u ⟨rfl,rfl⟩)
    |(go_at_call 59;refine D.mono ?_;rintro e w4 ⟨f,i,g,rfl,C,T⟩;have ab:=qaa T;have q:=qaa (d.out.step C);have aa:=qaa ((C.block _ ah).trans W.out))
    |(refine wpList_load_row rfl 87 _ rfl _ rfl _ _ _ _ aa.out underlying87 rfl (qar k.out) ?_)
    |(refine qak rfl 90 _ rfl _ rfl _ [(0,.agg O),(1,.slice f i g)] ?hl (X.out f i g) ?_;case hl=>simp[go_sem])
    |(refine wpList_store_row rfl 90 _ _ rfl (w.heap.size+1) (qbZ O f i g) rfl rfl 90 qcG q.out.res (qbk (qcd k.out _ _ _)) (ac.out _ _ _) (qeG p.out _ _ _) ?_)
    |(refine qas rfl rfl _ rfl a.heap.size rfl ?_)
    |(refine wpList_store_row rfl 87 _ _ rfl a.heap.size O rfl rfl 87 qaB (qac a _) (qar k.out) v.out p.out ?_;rw[World.setRow_alloc_new]))
   refine bodyPost_ret (qba results35 _ _ (w.heap.size+1) 90 (qbZ O f i g) (0,0) _ rfl (setRow_heap _ _ qcG _ _ _ q.out.res) underlying90 rfl (qbk (qcd k.out _ _ _)) (.int .i64 0) (.int .i64 0) rfl rfl) rfl ⟨qbZ O f i g,by rw[j.out,m.out],?_,qah q.out.below (by omega) _⟩;refine⟨qcd k.out _ _ _,qeG p.out _ _ _,fun _=>⟨I.out,f,i,g,by rw[H.out],?_⟩⟩;have hq:=ab.out Z.out;have aj:=ltA M.out.res;exact⟨_,hq.kept fun ae h1 _=>setRow_other _ (w.heap.size+1) ae _ (by rw[World.size_alloc] at h1;omega)⟩
  have o:Hid (¬qhk c=0):=by show ¬_;rw[j.out];exact Q
  go_wp2_with (first
   |(go_at_call 57;refine(t _).mono ?_;rintro e u ⟨rfl,rfl⟩)
   |(go_at_call 58;refine x.mono ?_;rintro e u ⟨rfl,rfl⟩)
   |(go_at_call 59;refine D.mono ?_;rintro e w4 ⟨f,i,g,rfl,C,T⟩;have q:=qaa (d.out.step C))
   |(refine wpList_store_row rfl 90 _ _ rfl (w.heap.size+1) qcG rfl rfl 90 qcG q.out.res (qbk qbc) rfl qd2 ?_)
   |(refine qas rfl rfl _ rfl a.heap.size rfl ?_)
   |(refine wpList_store_row rfl 87 _ _ rfl a.heap.size O rfl rfl 87 qaB (qac a _) (qar k.out) v.out p.out ?_;rw[World.setRow_alloc_new])
   |(refine qak rfl 90 _ rfl _ rfl _ [] ?hl qdx ?_;case hl=>simp)
   |(refine wpList_store_row rfl 90 _ _ rfl (w.heap.size+1) qcG rfl rfl 90 qcG d.out.res (qbk qbc) rfl qd2 ?_))
  refine bodyPost_ret (qba results35 _ _ (w.heap.size+1) 90 qcG (0,0) _ rfl (setRow_heap _ _ qcG _ _ _ q.out.res) underlying90 rfl (qbk qbc) (.int .i64 E1) (.int .i64 N1) rfl rfl) rfl ⟨qcG,by rw[j.out,m.out],qlB c _ o.out,qah q.out.below (by omega) _⟩
 obtain⟨n,s⟩:=G.out E;have j:=qaa n;have m:=qaa s;have o:Hid (¬qhk c=0):=by show ¬_;rw[n];exact E
 go_wp2_with (first
  |(refine qas rfl rfl _ rfl a.heap.size rfl ?_)
  |(refine wpList_store_row rfl 87 _ _ rfl a.heap.size O rfl rfl 87 qaB (qac a _) (qar k.out) v.out p.out ?_;rw[World.setRow_alloc_new])
  |(refine qak rfl 90 _ rfl _ rfl _ [] ?hl qdx ?_;case hl=>simp)
  |(refine wpList_store_row rfl 90 _ _ rfl (w.heap.size+1) qcG rfl rfl 90 qcG d.out.res (qbk qbc) rfl qd2 ?_))
 refine bodyPost_ret (qba results35 _ _ (w.heap.size+1) 90 qcG (0,0) _ rfl (setRow_heap _ _ qcG _ _ _ d.out.res) underlying90 rfl (qbk qbc) (.int .i64 E0) (.int .i64 0) rfl rfl) rfl ⟨qcG,by rw[j.out,m.out],qlB c _ o.out,qah d.out.below (by omega) _⟩

end
end Go.Proofs.YtcokgepdckkjdaaGreatDoor
