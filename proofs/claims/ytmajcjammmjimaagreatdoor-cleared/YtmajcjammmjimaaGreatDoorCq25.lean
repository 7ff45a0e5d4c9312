import Derived.Test.YtmajcjammmjimaaGreatDoorCq24
set_option maxRecDepth 100000
set_option maxHeartbeats 8000000
set_option linter.all false
namespace Go.Proofs.YtmajcjammmjimaaGreatDoor
open Go.Proofs.Tryz
variable{V:World}{N k:Nat}{F:Nat->Prop}{v:Value}{c:Rc}{R:Rep}{sts:List ((Nat->Nat)×Int×Int)}{p:List (List UInt8×Bool)}{d:DataW Unit}{A:Array Value}
section
open Go.RowKit Go.Lib
theorem qlG(a:Option Addr)(n c:Nat):∀w:World,(Instr.typeAssert (.iface 118 (.slice a n c)) 47 120 true).run prog w=.ok (.tuple #[.slice none 0 0,.bool false]) w:=λw=>by kernel_rfl
theorem qoD(a:Option Addr)(n c:Nat):∀w:World,(Instr.typeAssert (.iface 118 (.slice a n c)) 47 122 true).run prog w=.ok (.tuple #[.slice none 0 0,.bool false]) w:=λw=>by kernel_rfl
theorem qrj(B f:Nat)(t:TypeId)(y:Value)(b:∀w:World,(Instr.typeAssert (.iface t y) 47 120 true).run prog w=.ok (.tuple #[.slice none 0 0,.bool false]) w)(c:∀w:World,(Instr.typeAssert (.iface t y) 47 122 true).run prog w=.ok (.tuple #[.slice none 0 0,.bool false]) w)(W:World):Calls prog 105 #[.pointer (some ⟨B,0,none⟩),.iface t y,.int .i64 f] W λe a=>e=.returned (.iface t y)/\a=W:=by
 go_enter func105,ntmps105;go_wp2;go_ret;exact⟨rfl,rfl⟩
def qih(c:Rc)(k:Nat)(F:Nat->Prop)(r:DataW Unit×Rep)(M:Nat)(sts:List ((Nat->Nat)×Int×Int))(V:World)(e:Ending)(V':World):Prop :=
 ∃(v':Value) (sts':List ((Nat->Nat)×Int×Int)),e=.returned v'/\qca c r.2 M sts' V'/\KpR V V'/\Pre sts sts'/\qah k V' (λj=>F j\/(V.heap.size<=j/\j<V'.heap.size)) v' r.1
theorem qq3(B f:Nat)(a:Option Addr)(n m:Nat)(W:World)(c:Rc)(k:Nat)(F:Nat->Prop)(r:DataW Unit×Rep)(M:Nat)(d:List ((Nat->Nat)×Int×Int))(b:Calls prog 119 #[.pointer (some ⟨B,0,none⟩),.slice a n m,.int .i64 f] W (qnd c k F 120 r M d W)):Calls prog 105 #[.pointer (some ⟨B,0,none⟩),.iface 120 (.slice a n m),.int .i64 f] W (qih c k F r M d W):=by
 have p:=qil a n m;go_enter func105,ntmps105
 go_wp2_with(first
  |(go_at_call 119;refine b.mono ?_;clear b;rintro e t ⟨o,s,q,l,rfl,g,h,i,j⟩))
 go_ret;exact⟨_,l,rfl,g,h,i,j⟩
theorem qtd(B f:Nat)(a:Option Addr)(n m:Nat)(W:World)(c:Rc)(k:Nat)(F:Nat->Prop)(r:DataW Unit×Rep)(M:Nat)(d:List ((Nat->Nat)×Int×Int))(b:Calls prog 120 #[.pointer (some ⟨B,0,none⟩),.slice a n m,.int .i64 f] W (qnd c k F 122 r M d W)):Calls prog 105 #[.pointer (some ⟨B,0,none⟩),.iface 122 (.slice a n m),.int .i64 f] W (qih c k F r M d W):=by
 have p:=qla a n m;have q:=qnj a n m;go_enter func105,ntmps105
 go_wp2_with(first
  |(go_at_call 120;refine b.mono ?_;clear b;rintro e u ⟨o,t,s,l,rfl,g,h,i,j⟩))
 go_ret;exact⟨_,l,rfl,g,h,i,j⟩
theorem qbE.sliceR{t:TypeId}{size n:Nat}{xs:List Value}(h:qbE V t size F v n xs):∃q a,v=.slice q n a:=by
 rcases h.2 with⟨e,b⟩|⟨g,a,c,e,_⟩
 ·exact⟨none,0,by rw[e,b]⟩
 exact⟨_,_,e⟩
theorem qtQ(c:Rc)(ok:qjx c)(k:Nat)(C:qxD c k)(W:World)(F:Nat->Prop)(x:Value)(d:DataW Unit)(p:List (List UInt8×Bool))(f:Nat)(R:Rep)(N:Nat)(b:List ((Nat->Nat)×Int×Int))(h:qca c R N b W)(A:StF c b f p)(hF:∀j,F j->j<W.heap.size)(a:qah (k+1) W F x d)(z:(qbc (k+1) d).length<=999999999)(H:N+ndF (k+1) d<=90001):Calls prog 105 #[.pointer (some ⟨c.B,0,none⟩),x,.int .i64 f] W (qih c (k+1) F (shF (rwF c.v k) p d R) (N+ndF (k+1) d-1) b W):=by
 have l:∀(t:TypeId) (y:Value),x=.iface t y->shF (rwF c.v k) p d R=(d,R)->1<=ndF (k+1) d->(∀w:World,(Instr.typeAssert (.iface t y) 47 120 true).run prog w=.ok (.tuple #[.slice none 0 0,.bool false]) w)->(∀w:World,(Instr.typeAssert (.iface t y) 47 122 true).run prog w=.ok (.tuple #[.slice none 0 0,.bool false]) w)->Calls prog 105 #[.pointer (some ⟨c.B,0,none⟩),x,.int .i64 f] W (qih c (k+1) F (shF (rwF c.v k) p d R) (N+ndF (k+1) d-1) b W):=by
  intro t y o i n D E;subst o;rw[i];refine(qrj c.B f t y D E W).mono ?_;rintro e G ⟨rfl,rfl⟩;exact⟨_,b,rfl,h.more (by omega),KpR.refl _,Pre.refl _,a.same (λ_ h=>.inl h) (λ_ _=>rfl)⟩
 have I:=a;unfold qah at a;split at a
 ·exact l _ _ a rfl (kaf _) qeP qfH
 ·exact l _ _ a rfl (kaf _) (qgL _) (qic _)
 ·exact l _ _ a.1 rfl (kaf _) (qfI _) (qg7 _)
 ·exact l _ _ a rfl (kaf _) (qhU _) (qkm _)
 ·obtain⟨u,e,g⟩:=a;obtain⟨q,m,rfl⟩:=g.sliceR;exact l _ _ e rfl (kaf _) (qlG _ _ _) (qoD _ _ _)
 ·rename_i ds
  obtain⟨u,s,rfl,g,r⟩:=a;obtain⟨q,m,rfl⟩:=g.sliceR;have o:ndF (k+1) (.agg ds)=2+(ds.map λd=>1+ndF k d).sum:=rfl;have i:N+ndF (k+1) (.agg ds)-1=N+1+(ds.map λd=>1+ndF k d).sum:=by omega
  rw[i];have n:qbc (k+1) (.agg ds)=qaj 4 ds.length++ds.flatMap (qbc k):=rfl;refine qq3 c.B f q ds.length m W c (k+1) F _ _ b (qkz c ok k C W F _ ds s p f R N b h A hF g r ?_ (by omega));rw[n,kaa]at z;omega
 ·rename_i es
  obtain⟨u,s,rfl,g,r⟩:=a;obtain⟨q,m,rfl⟩:=g.sliceR;have o:ndF (k+1) (.map es)=1+(es.map λe=>2+ndF k e.2).sum:=rfl;have i:N+ndF (k+1) (.map es)-1=N+(es.map λe=>2+ndF k e.2).sum:=by omega
  rw[i];have n:qbc (k+1) (.map es)=qaj 5 es.length++es.flatMap (λe=>(qaj 3 (qaN e.1).length++qaN e.1)++qbc k e.2):=rfl;refine qtd c.B f q es.length m W c (k+1) F _ _ b (qm8 c ok k C W F _ es s p f R N b h A hF g r ?_ (by omega));rw[n,kaa]at z;omega
 exact a.elim

theorem qgF(h:qca c R N sts V)(ok:qjx c)(j:Nat):V.cell? ⟨c.B,37+j,none⟩=#[.int .i64 c.v.clr,.int .i64 c.v.key,.pointer (some ⟨c.A,0,none⟩),.int .i64 R.1,.int .i64 R.2.1,.int .i64 R.2.2.1,.int .i64 R.2.2.2][j]?:=by
 refine(qaa h.box (37+j)).trans ?_;unfold rwC;rw[kb6 (by rw[ok.ord.size];omega),ok.ord.size,show 37+j-37=j by omega]
theorem qrN(h:qca c R N sts V):∀(j:Nat) (u:Value),c.O[j]?=some u->V.cell? ⟨c.B,0+j,none⟩=some u:=by
 intro j u a;have b:j<c.O.size:=ltA a;refine(qaa h.box (0+j)).trans ?_;rw[kaL];unfold rwC;rw[kbN b];exact a
theorem qi6(ok:qjx c)(R:Rep)(j:Nat)(v:Value):(rwC c R).setIfInBounds (37+j) v=c.O++#[.int .i64 c.v.clr,.int .i64 c.v.key,.pointer (some ⟨c.A,0,none⟩),.int .i64 R.1,.int .i64 R.2.1,.int .i64 R.2.2.1,.int .i64 R.2.2.2].setIfInBounds j v:=by
 unfold rwC;apply kdj;have a:c.O.toList.length=37:=by simp[ok.ord.size]
 simp only[kbM,kcZ];rw[kcx _ _ (by omega),show 37+j-c.O.toList.length=j by omega]
theorem qtG(ok:qjx c):(prog.info? 84).map (·.size)=some c.O.size:=by rw[ok.ord.size];kernel_rfl
theorem qtn{c:Rv}(a:c.m (lbF c.dflt c.rs p.reverse).1.toNat c.clr=true):rwF c (k+1) p d R=(some (shF (rwF c k) p d (R.1+1,R.2)).1,(shF (rwF c k) p d (R.1+1,R.2)).2):=by rw[rwF,kag a]
theorem qsR{c:Rv}(b:¬c.m (lbF c.dflt c.rs p.reverse).1.toNat c.clr=true)(a:(lbF c.dflt c.rs p.reverse).2=2):rwF c (k+1) p d R=(some (.lit (.string [42,42,42])),(R.1,R.2.1,R.2.2.1+1,R.2.2.2)):=by rw[rwF,kac b,kag a]
theorem qwW{c:Rv}(b:¬c.m (lbF c.dflt c.rs p.reverse).1.toNat c.clr=true)(a:(lbF c.dflt c.rs p.reverse).2=3):rwF c (k+1) p d R=(some (.lit (.string (quz c.key (lbF c.dflt c.rs p.reverse).1.toNat (qbc (k+1) d)))),(R.1,R.2.1,R.2.2.1,R.2.2.2+1)):=by rw[rwF,kac b,kac (by rw[a];decide),kag a]
theorem qtj{c:Rv}(e:¬c.m (lbF c.dflt c.rs p.reverse).1.toNat c.clr=true)(a:¬(lbF c.dflt c.rs p.reverse).2=2)(b:¬(lbF c.dflt c.rs p.reverse).2=3):rwF c (k+1) p d R=(none,(R.1,R.2.1+1,R.2.2.1,R.2.2.2)):=by rw[rwF,kac e,kac a,kac b]
theorem qvT(k:Nat)(d:DataW Unit):1<=ndF (k+1) d:=by
 unfold ndF;split<;>omega
def q0D(c:Rc)(k:Nat)(p:List (List UInt8×Bool)):Prop:=∀(W:World) (F:Nat->Prop) (x:Value) (d:DataW Unit) (f:Nat) (R:Rep) (N:Nat) (sts:List ((Nat->Nat)×Int×Int)) (_h:qca c R N sts W) (_hf:StF c sts f p) (_hF:∀j,F j->j<W.heap.size) (_hd:qah (k+1) W F x d) (_hc:(qbc (k+1) d).length<=999999999) (_hN:N+ndF (k+1) d<=90001),Calls prog 105 #[.pointer (some ⟨c.B,0,none⟩),x,.int .i64 f] W (qih c (k+1) F (shF (rwF c.v k) p d R) (N+ndF (k+1) d-1) sts W)
def qvk(c:Rc)(k:Nat)(p:List (List UInt8×Bool)):Prop:=∀(V:World) (F:Nat->Prop) (x:Value) (d:DataW Unit) (f:Nat) (R:Rep) (N:Nat) (sts:List ((Nat->Nat)×Int×Int)),qca c R N sts V->StF c sts f p->(∀j,F j->j<V.heap.size)->qah k V F x d->(qbc k d).length<=999999999->N+ndF k d<=90000 ->
  Calls prog 86 #[.pointer (some ⟨c.B,0,none⟩),x,.int .i64 f] V (qnN c k F (rwF c.v k p d R) (N+ndF k d) sts V)
theorem qob(c:Rc)(ok:qjx c)(k:Nat)(p:List (List UInt8×Bool))(E:c.v.m (lbF c.v.dflt c.v.rs p.reverse).1.toNat c.v.clr=true->q0D c k p):qvk c (k+1) p:=by
 intro W F a9 d aj R N o h hf hF K hc hN;have X:=h.verdict ok hf;obtain⟨l,hl,ap⟩:=ok.lab p.reverse;rw[hl]at X;obtain⟨D,G⟩:∃D,Hid ((lbF c.v.dflt c.v.rs p.reverse).2=D):=⟨_,rfl⟩
 rw[G.out]at X;obtain⟨b,P⟩:∃b,Hid (c.v.m l c.v.clr=b):=⟨_,rfl⟩
 have Q:Hid ((lbF c.v.dflt c.v.rs p.reverse).1.toNat=l):=by show _=_;rw[hl];simp
 have cM:=λV=>qoM c.O c.n c.v.m ok.ord ok.n6 l c.v.clr ap ok.clr V;rw[P.out]at cM;obtain⟨t,y,rfl⟩:=K.iface;have HR:Hid (qca c R N o W):=h;have i:Hid (qjx c):=ok;have av:=qsF h ok;have az:=h.few;have a4:=qvT k d;have U:Hid (∀V,b=true->qca c (R.1+1,R.2) (N+1) o V->KpR W V->Calls prog 105 #[.pointer (some ⟨c.B,0,none⟩),.iface t y,.int .i64 aj] V (qih c (k+1) F (shF (rwF c.v k) p d (R.1+1,R.2)) (N+1+ndF (k+1) d-1) o V)):=λV aw h1 s=>E (by rw[Q.out,P.out,aw]) V F (.iface t y) d aj (R.1+1,R.2) (N+1) o h1 hf (λj M=>kai (hF j M) s.size) (K.kept (λ_ h=>h) s) hc (by omega);rw[show N+1+ndF (k+1) d-1=N+ndF (k+1) d by omega]at U;have ao:8<c.W0.heap.size:=by
  have h0:=ok.tab;by_cases h:8<c.W0.heap.size
  ·exact h
  simp[World.cell?,h]at h0
 have J:Hid (∀V,Below c.W0.heap.size c.W0 V->KpR W V->Calls prog 106 #[.int .i64 c.v.key,.int .i64 l,.iface t y] V λe W'=>e=.returned (.string ⟨(quz c.v.key l (qbc (k+1) d)).toArray⟩)/\Below V.heap.size V W'):=λV h1 s=>qpJ c.v.key l (by have:=ok.n6;omega) (k+1) V F (.iface t y) d (λj M=>kai (hF j M) s.size) (K.kept (λ_ h=>h) s) hc ((h1.cell ao).trans ok.tab);have ag:N+1<=N+ndF (k+1) d:=by omega
 obtain⟨rr,I⟩:∃rr,Hid (rwF c.v (k+1) p d R=rr):=⟨_,rfl⟩
 rw[I.out];generalize hNE:N+ndF (k+1) d=NE at *;clear h hf hF K hc ok E hl ap ao hNE;go_enter func86,ntmps86
 go_wp2_with(first
  |(go_at_call 103;refine X.mono ?_;clear X;rintro e w2 ⟨rfl,ac⟩;have T:Hid (qca c R N o (World.drew w2)):=HR.out.step ac.drew;have ai:Hid (KpR W (World.drew w2)):=KpR.of_below ac.drew;clear HR av ac))
 refine rgn (S:=λZ=>(∀(j:Nat) (u:Value),c.O[j]?=some u->Z.cell? ⟨c.B,0+j,none⟩=some u)/\Z.cell? ⟨c.B,37,none⟩=some (.int .i64 c.v.clr)) (⟨qrN T.out,qgF T.out i.out 0⟩) (by kernel_rfl) ?_;intro q;refine tkp 0 20 (.pointer (some ⟨c.B,0,none⟩)) q ?_;refine tkp 1 21 (.pointer (some ⟨c.B,0,none⟩)) q ?_;refine tkp 2 22 (.pointer (some ⟨c.B,0,none⟩)) q ?_;refine tkp 3 23 (.pointer (some ⟨c.B,0,none⟩)) q ?_;refine tkq 4 24 (.agg c.O) rfl (λZ hZ=>?y4) q ?_
 case y4=>exact qxG 84 (.tmp 23) rfl c.B 0 rfl c.O _ hZ.1 underlying84 rfl (qtG i.out)
 refine tkp 5 25 (.int .i64 l) q ?_;refine tkp 6 26 (.pointer (some ⟨c.B,0,none⟩)) q ?_;refine tkp 7 27 (.pointer (some ⟨c.B,0,none⟩)) q ?_;refine tkp 8 28 (.pointer (some ⟨c.B,0,none⟩)) q ?_;refine tkp 9 29 (.pointer (some ⟨c.B,37,none⟩)) q ?_;refine tkq 10 30 (.int .i64 c.v.clr) rfl (λZ hZ=>?y10) q ?_
 case y10=>(have z1:=hZ.2;go_simp)
 refine rdq 11 (λax hK=>?_);go_simp;refine(cM _).mono ?_;clear cM;rintro e a ⟨rfl,ad⟩;simp only[];have r:=qab (T.out.step ad);have H:Hid (KpR W a):=ai.out.trans (KpR.of_below ad);have an:(λZ:World=>(∀(j:Nat) (u:Value),c.O[j]?=some u->Z.cell? ⟨c.B,0+j,none⟩=some u)/\Z.cell? ⟨c.B,37,none⟩=some (.int .i64 c.v.clr)) a:=⟨qrN r.out,qgF r.out i.out 0⟩
 refine hK.out _ _ an (λ_=>?_);clear hK T ai ad q;refine wdn ?_;go_simp;clear an;have A:∀j,a.frozen? ⟨c.B,j,none⟩=false:=λj=>kaK a c.B j _ _ r.out.box
 cases b with
 |true =>
  have a5:a.cell? ⟨c.B,40,none⟩=some (.int .i64 R.1):=qgF r.out i.out 3;have a0:=A 40;have z:rr=(some (shF (rwF c.v k) p d (R.1+1,R.2)).1,(shF (rwF c.v k) p d (R.1+1,R.2)).2):=I.out.symm.trans (qtn (by rw[Q.out];exact P.out));subst z;have g:qca c (R.1+1,R.2) (N+1) o (a.setCell ⟨c.B,40,none⟩ (.int .i64 ((R.1:Int)+1)))/\KpR a (a.setCell ⟨c.B,40,none⟩ (.int .i64 ((R.1:Int)+1))):=r.out.count (R':=(R.1+1,R.2)) i.out 40 (R.1+1) (by rw[show 40=37+3 from rfl,qi6 i.out];rfl) (by simp only;omega);have cS:=U.out _ rfl g.1 (H.out.trans g.2);have w:Hid (KpR W (a.setCell ⟨c.B,40,none⟩ (.int .i64 ((R.1:Int)+1)))):=H.out.trans g.2;clear g J U A;generalize shF (rwF c.v k) p d (R.1+1,R.2)=E at *
  go_wp2_with(first
   |(go_at_call 105;refine cS.mono ?_;clear cS;rintro e f ⟨v4,ah,rfl,am,ak,al,af⟩;obtain⟨t4,y4,rfl⟩:=af.iface;have C:Hid (qca c E.2 NE ah f):=am;have ar:Hid (Pre o ah):=al;have ab:Hid (KpR W f):=w.out.trans ak;have aq:Hid (qah (k+1) f (λj=>F j\/(W.heap.size<=j/\j<f.heap.size)) (.iface t4 y4) E.1):=af.same (λj M=>M.imp id (λh=>⟨kaj w.out.size h.1,h.2⟩)) (λ_ _=>rfl);clear am ak al af))
  refine kaw (kbY results86 _ _ _) rfl ?_;exact⟨_,ah,rfl,C.out,ab.out,ar.out,λh=>by simp at h,λY h=>by
   have L:E.1=Y:=kaE h;rw[<-L];exact aq.out⟩
 |false =>
  have aa:Hid (¬c.v.m (lbF c.v.dflt c.v.rs p.reverse).1.toNat c.v.clr=true):=by show¬_;rw[Q.out,P.out];decide
  clear U;by_cases s:D=2
  ·subst s;have a7:a.cell? ⟨c.B,42,none⟩=some (.int .i64 R.2.2.1):=qgF r.out i.out 5;have a2:=A 42;have z:=I.out.symm.trans (qsR aa.out G.out);subst z;have g:qca c (R.1,R.2.1,R.2.2.1+1,R.2.2.2) (N+1) o (a.setCell ⟨c.B,42,none⟩ (.int .i64 ((R.2.2.1:Int)+1)))/\KpR a (a.setCell ⟨c.B,42,none⟩ (.int .i64 ((R.2.2.1:Int)+1))):=r.out.count (R':=(R.1,R.2.1,R.2.2.1+1,R.2.2.2)) i.out 42 (R.2.2.1+1) (by rw[show 42=37+5 from rfl,qi6 i.out];rfl) (by simp only;omega);have w:Hid (KpR W (a.setCell ⟨c.B,42,none⟩ (.int .i64 ((R.2.2.1:Int)+1)))):=H.out.trans g.2;have C:Hid (qca c (R.1,R.2.1,R.2.2.1+1,R.2.2.2) NE o (a.setCell ⟨c.B,42,none⟩ (.int .i64 ((R.2.2.1:Int)+1)))):=g.1.more ag;clear g J A
   go_wp2_with fail
   refine kaw (kbY results86 _ _ _) rfl ?_;exact⟨_,o,rfl,C.out,w.out,Pre.refl _,λh=>by simp at h,λY h=>by
    have L:=kaE h;rw[<-L];rfl⟩
  by_cases x:D=3
  ·subst x;have a8:a.cell? ⟨c.B,43,none⟩=some (.int .i64 R.2.2.2):=qgF r.out i.out 6;have a3:=A 43;have z:=I.out.symm.trans (qwW aa.out G.out);rw[Q.out]at z;subst z;have g:qca c (R.1,R.2.1,R.2.2.1,R.2.2.2+1) (N+1) o (a.setCell ⟨c.B,43,none⟩ (.int .i64 ((R.2.2.2:Int)+1)))/\KpR a (a.setCell ⟨c.B,43,none⟩ (.int .i64 ((R.2.2.2:Int)+1))):=r.out.count (R':=(R.1,R.2.1,R.2.2.1,R.2.2.2+1)) i.out 43 (R.2.2.2+1) (by rw[show 43=37+6 from rfl,qi6 i.out];rfl) (by simp only;omega);have w:Hid (KpR W (a.setCell ⟨c.B,43,none⟩ (.int .i64 ((R.2.2.2:Int)+1)))):=H.out.trans g.2;have C:Hid (qca c (R.1,R.2.1,R.2.2.1,R.2.2.2+1) NE o (a.setCell ⟨c.B,43,none⟩ (.int .i64 ((R.2.2.2:Int)+1)))):=g.1.more ag;have ay:(a.setCell ⟨c.B,43,none⟩ (.int .i64 ((R.2.2.2:Int)+1))).cell? ⟨c.B,38,none⟩=some (.int .i64 c.v.key):=qgF g.1 i.out 1;have cG:=J.out _ g.1.below w.out;clear g J A s;generalize quz c.v.key l (qbc (k+1) d)=tg at *
   go_wp2_with(first
    |(go_at_call 106;refine cG.mono ?_;clear cG;rintro e w5 ⟨rfl,ae⟩;have au:=qab (C.out.step ae);have ab:Hid (KpR W w5):=w.out.trans (KpR.of_below ae);clear ae))
   refine kaw (kbY results86 _ _ _) rfl ?_;exact⟨_,o,rfl,au.out,ab.out,Pre.refl _,λh=>by simp at h,λY h=>by
    have L:=kaE h;rw[<-L];rfl⟩
  have a6:a.cell? ⟨c.B,41,none⟩=some (.int .i64 R.2.1):=qgF r.out i.out 4;have a1:=A 41;have e2:(D==2)=false:=by simpa using s
  have e3:(D==3)=false:=by simpa using x
  have z:=I.out.symm.trans (qtj aa.out (G.out.symm▸s) (G.out.symm▸x));subst z;have g:qca c (R.1,R.2.1+1,R.2.2.1,R.2.2.2) (N+1) o (a.setCell ⟨c.B,41,none⟩ (.int .i64 ((R.2.1:Int)+1)))/\KpR a (a.setCell ⟨c.B,41,none⟩ (.int .i64 ((R.2.1:Int)+1))):=r.out.count (R':=(R.1,R.2.1+1,R.2.2.1,R.2.2.2)) i.out 41 (R.2.1+1) (by rw[show 41=37+4 from rfl,qi6 i.out];rfl) (by simp only;omega);have w:Hid (KpR W (a.setCell ⟨c.B,41,none⟩ (.int .i64 ((R.2.1:Int)+1)))):=H.out.trans g.2;have C:Hid (qca c (R.1,R.2.1+1,R.2.2.1,R.2.2.2) NE o (a.setCell ⟨c.B,41,none⟩ (.int .i64 ((R.2.1:Int)+1)))):=g.1.more ag;clear g J A s x
  go_wp2_with fail
  refine kaw (kbY results86 _ _ _) rfl ?_;exact⟨_,o,rfl,C.out,w.out,Pre.refl _,λ_=>rfl,λY h=>by cases h⟩
theorem qlO(c:Rc)(ok:qjx c)(k:Nat)(b:qxD c k):qxD c (k+1):=λW F x d p f R N a=>qob c ok k p (λ_ W F x d f R N a=>qtQ c ok k b W F x d p f R N a) W F x d f R N a
theorem quG(c:Rc)(ok:qjx c):∀k,qxD c k
 |0=>λ_ _ _ _ _ _ _ _ _ _ _ _ h=>h.elim
 |k+1=>qlO c ok k (quG c ok k)

theorem qhs{P:Program}{fn:Func}{p u:Tmp}{ty:TypeId}(h:fn.results=#[.tmp u,.cell p ty])(b:Array Value)(w:World)(g:Nat)(t:TypeId)(cs:Array Value)(c:Nat×Nat)(d:TypeDesc)(j:b.getD p undef=.pointer (some ⟨g,0,none⟩))(i:w.heap[g]?=some (.cells cs t c))(k:P.underlying ty=some d)(f:(match d with|.struct _|.array _ _=>true|_=>false)=true)(hi:(P.info? ty).map (·.size)=some cs.size)(v:Value)(l:b.getD u undef=v):(results fn b).run P w=.ok (.tuple #[v,.agg cs]) w:=by
 have e:(results fn b).run P w=((asAddr (b.getD p undef)).run P w).andThen λa m=>((loadVar ty a).run P m).andThen λv n=>.ok (.tuple #[b.getD u undef,v]) n:=by
  simp only[results,h];simp[kbb,Result.andThen]
 subst l;rw[e,j];simp only[asAddr,kby,kaJ,kbZ w g t ty cs c d i k f hi]
def qhR(c:Rc):Array Value:=c.O++#[.int .i64 c.v.clr,.int .i64 c.v.key,.pointer (some ⟨c.A,0,none⟩)]
def qaK(R:Rep):Array Value:=#[.int .i64 R.1,.int .i64 R.2.1,.int .i64 R.2.2.1,.int .i64 R.2.2.2]
def qma:Array Value:=qaq 0 (λ_ _=>false)++#[.int .i64 0,.int .i64 0,.pointer none,.int .i64 0,.int .i64 0,.int .i64 0,.int .i64 0]
theorem qkM(ρ:Operand->Value)(o:Oper)(a:o.op=.alloc 192)(w:World):(execOp ρ o).run prog w=.ok (.value (.pointer (some ⟨w.heap.size,0,none⟩))) (w.alloc (.cells qma 192)):=by
 unfold execOp;rw[a];kernel_rfl
theorem qh1{ops:Array Oper}{rest:List Oper}{o:Oper}{a:Act}{w:World}{Q:Exit->Act->World->Prop}(e:o.guard=none)(f:o.op=.alloc 192)(d:Option Tmp)(c:o.dst=d)(N:Nat)(b:w.heap.size=N)(h:wpList prog ops Q rest (a.put d (.pointer (some ⟨N,0,none⟩))) (w.alloc (.cells qma 192))):wpList prog ops Q (o::rest) a w:=by
 subst b;exact kc1 e d c _ _ (qkM _ _ f _) h
theorem qpH(n:Nat)(m:Nat->Nat->Bool)(x y:Int)(p:Option Addr):prog.built 192 [(0,.agg (qaq n m++#[.int .i64 x,.int .i64 y,.pointer p]))]=some (qaq n m++#[.int .i64 x,.int .i64 y,.pointer p,.int .i64 0,.int .i64 0,.int .i64 0,.int .i64 0]):=by kernel_rfl
theorem qwx(h:A.size=40):(prog.info? 93).map (·.size)=some A.size:=by rw[h];kernel_rfl
theorem qvN(h:A.size=44):(prog.info? 192).map (·.size)=some A.size:=by rw[h];kernel_rfl
theorem qbk(R:Rep):(prog.info? 32).map (·.size)=some (qaK R).size:=by kernel_rfl
theorem qsJ(h:qah k V F v d):qah k {V with drawn:=V.drawn+1} F v d:=by
 have a:∀j,F j->({V with drawn:=V.drawn+1}:World).heap[j]?=V.heap[j]?:=λ_ _=>rfl;exact qah.same (λ_ h=>h) a h
def qzo(c:Rc)(k:Nat)(F:Nat->Prop)(r:Option (DataW Unit)×Rep)(W:World)(e:Ending)(V':World):Prop :=
 ∃t y,e=.returned (.tuple #[.iface t y,.agg (qaK r.2)])/\KpR W V'/\Below c.W0.heap.size c.W0 V'/\(∀j,j<W.heap.size->j≠c.A->j≠c.q.nb->j≠c.q.mb->some j≠c.own0->V'.heap[j]?=W.heap[j]?)/\qah k V' (λj=>F j\/(W.heap.size<=j/\j<V'.heap.size)) (.iface t y) (r.1.getD .nil)
theorem qqE(c:Rc)(ok:qjx c)(K:c.O=qaq c.n c.v.m)(W:World)(T:c.G=W)(y:c.B=W.heap.size+2)(k:Nat)(bb:qvk c k [])(F:Nat->Prop)(x:Value)(d:DataW Unit)(N:Nat)(D:List ((Nat->Nat)×Int×Int))(sa:Option Addr)(sc:Nat)(nf:Lit->Option Nat)(mn:Nat)(mf:Lit->Option Nat)(hA:qcy c.W0 c.A c.q D (.slice sa D.length sc) nf mn mf W)(hM:qwh c.q D mf)(ay:mn<=N)(az:D.length<=N+1)(ho:(Value.slice sa D.length sc).ownBlock=c.own0)(hs:StF c D 0 [])(hF:∀j,F j->j<W.heap.size)(b:qah k W F x d)(hc:(qbc k d).length<=999999999)(hN:N+ndF k d<=90000):Calls prog 61 #[.agg (qhR c),x] W (qzo c k F (rwF c.v k [] d (0,0,0,0)) W):=by
 have ag:rwC c (0,0,0,0)=qaq c.n c.v.m++#[.int .i64 c.v.clr,.int .i64 c.v.key,.pointer (some ⟨c.A,0,none⟩),.int .i64 0,.int .i64 0,.int .i64 0,.int .i64 0]:=by unfold rwC;rw[K];rfl
 have ai:Hid (prog.built 192 [(0,.agg (qhR c))]=some (rwC c (0,0,0,0))):=by show _=_;rw[ag];unfold qhR;rw[K];exact qpH _ _ _ _ _
 have am:Hid ((qhR c).size=40):=by show _=_;unfold qhR;rw[K,kdp,qae];rfl
 have an:Hid ((rwC c (0,0,0,0)).size=44):=qn9 ok _;have ao:Hid (qma.size=(rwC c (0,0,0,0)).size):=by show _=_;rw[qn9 ok,qma,kdp,qae];rfl
 have ap:Hid ((rwC c (0,0,0,0)).all (·.oneCell')=true):=by show _=_;rw[ag,kcT,qfr];simp[Value.oneCell']
 have aa:Hid (∀V,Below W.heap.size W V->V.heap[W.heap.size+2]?=some (.cells (rwC c (0,0,0,0)) 192)->Calls prog 86 #[.pointer (some ⟨W.heap.size+2,0,none⟩),x,.int .i64 0] V (qnN c k F (rwF c.v k [] d (0,0,0,0)) (N+ndF k d) D V)):=λV C r=>by
  have:=bb V F x d 0 (0,0,0,0) N D ⟨by rw[y];exact r,⟨sa,sc,nf,mn,mf,hA.next C,hM,ay,az,.inl ho⟩,⟨by rw[T];exact C.size,λj a _ _ _ _=>by rw[T];exact C.block j (T▸a)⟩,kaY _⟩ hs (λj g=>kai (hF j g) C.size) (b.same (λ_ h=>h) (λj g=>C.block j (hF j g))) hc hN;rw[y]at this;exact this
 have ax:∀V G,qah k V G (.iface 196 (.agg #[])) .nil:=λV G=>by
  cases k with
  |zero=>exact b.elim
  |succ k=>rfl
 obtain⟨t,bf,rfl⟩:=b.iface;have HF:Hid (∀j,F j->j<W.heap.size):=hF;have bc:c.W0.heap.size<=W.heap.size+1:=kc0 hA.below.size;clear hA hM ay az ho hs hF b hc hN ag;obtain⟨⟨o,R⟩,hr⟩:∃be,rwF c.v k [] d (0,0,0,0)=be:=⟨_,rfl⟩
 rw[hr]at aa ⊢;clear hr;have av:Hid (((W.alloc (.cells (qhR c) 93)).alloc (.cells #[.int .i64 0,.int .i64 0,.int .i64 0,.int .i64 0] 32)).heap[W.heap.size]?=some (.cells (qhR c) 93)):=(kae _ _ _ (by simp)).trans (qac W _);have ab:Hid ((((W.alloc (.cells (qhR c) 93)).alloc (.cells #[.int .i64 0,.int .i64 0,.int .i64 0,.int .i64 0] 32)).alloc (.cells qma 192)).heap[W.heap.size+2]?=some (.cells qma 192)):=by
  have h:=qac ((W.alloc (.cells (qhR c) 93)).alloc (.cells #[.int .i64 0,.int .i64 0,.int .i64 0,.int .i64 0] 32)) (.cells qma 192);show _=_;rw[kad,kad]at h;exact h
 have aj:Hid (Below W.heap.size W (((W.alloc (.cells (qhR c) 93)).alloc (.cells #[.int .i64 0,.int .i64 0,.int .i64 0,.int .i64 0] 32)).alloc (.cells qma 192))):=((bwA).alloc (by simp) _).alloc (by simp;omega) _;have aw:Hid ((((W.alloc (.cells (qhR c) 93)).alloc (.cells #[.int .i64 0,.int .i64 0,.int .i64 0,.int .i64 0] 32)).alloc (.cells qma 192)).heap[W.heap.size+1]?=some (.cells (qaK (0,0,0,0)) 32)):=by
  have h:=qac (W.alloc (.cells (qhR c) 93)) (.cells #[.int .i64 0,.int .i64 0,.int .i64 0,.int .i64 0] 32);show _=_;rw[kad]at h;exact(kae _ _ _ (by simp)).trans h
 go_enter func61,ntmps61
 go_wp2_with(first
  |(refine qh1 rfl rfl _ rfl (W.heap.size+2) ?hN ?_;case hN=>(simp only[kad];done))
  |(refine kak rfl 93 _ rfl W.heap.size rfl _ _ _ _ av.out underlying93 rfl (qwx am.out) ?_)
  |(refine kan rfl 192 _ _ rfl (W.heap.size+2) (rwC c (0,0,0,0)) rfl rfl 192 qma ab.out (qvN an.out) ao.out ap.out ?_)
  |(refine qal rfl 192 _ rfl _ rfl _ [(0,.agg (qhR c))] ?hl ai.out ?_;case hl=>simp[go_sem]))
 have ar:Hid (Below W.heap.size W ((((W.alloc (.cells (qhR c) 93)).alloc (.cells #[.int .i64 0,.int .i64 0,.int .i64 0,.int .i64 0] 32)).alloc (.cells qma 192)).setRow (W.heap.size+2) (rwC c (0,0,0,0)))):=qai aj.out (by omega) _;have a7:Hid (((((W.alloc (.cells (qhR c) 93)).alloc (.cells #[.int .i64 0,.int .i64 0,.int .i64 0,.int .i64 0] 32)).alloc (.cells qma 192)).setRow (W.heap.size+2) (rwC c (0,0,0,0))).heap[W.heap.size+2]?=some (.cells (rwC c (0,0,0,0)) 192)):=kaA _ _ _ _ _ _ ab.out;have a8:Hid (((((W.alloc (.cells (qhR c) 93)).alloc (.cells #[.int .i64 0,.int .i64 0,.int .i64 0,.int .i64 0] 32)).alloc (.cells qma 192)).setRow (W.heap.size+2) (rwC c (0,0,0,0))).heap[W.heap.size+1]?=some (.cells (qaK (0,0,0,0)) 32)):=sx (by omega) aw.out;have a9:Hid (W.heap.size+3<=((((W.alloc (.cells (qhR c) 93)).alloc (.cells #[.int .i64 0,.int .i64 0,.int .i64 0,.int .i64 0] 32)).alloc (.cells qma 192)).setRow (W.heap.size+2) (rwC c (0,0,0,0))).heap.size):=by show _<=_;simp
 generalize(((W.alloc (.cells (qhR c) 93)).alloc (.cells #[.int .i64 0,.int .i64 0,.int .i64 0,.int .i64 0] 32)).alloc (.cells qma 192)).setRow (W.heap.size+2) (rwC c (0,0,0,0))=V at *;clear av ab aw aj ai am an ao ap;have cR:=aa.out V ar.out a7.out;clear aa;have au:Hid (c.W0.heap.size<=W.heap.size+1):=bc;have al:Hid (qjx c):=ok;have HG:Hid (c.G=W):=T;have HB:Hid (c.B=W.heap.size+2):=y;clear ok T y K;obtain⟨N4,a0⟩:∃N4,Hid (N+ndF k d=N4):=⟨_,rfl⟩
 rw[a0.out]at cR;have a6:Hid (∀V G,qah k V G (.iface 196 (.agg #[])) .nil):=ax;have Y:Calls prog 86 #[.pointer (some ⟨W.heap.size+2,0,none⟩),.iface t bf,.int .i64 0] V λe i=>∃X,e=.returned (.tuple #[X,.bool o.isSome])/\Hid (i.heap[W.heap.size+2]?=some (.cells (rwC c R) 192))/\Hid (i.heap[W.heap.size+1]?=some (.cells (qaK (0,0,0,0)) 32))/\Hid (KpR W i)/\Hid (Below c.W0.heap.size c.W0 i)/\Hid (∀j,j<W.heap.size->j≠c.A->j≠c.q.nb->j≠c.q.mb->some j≠c.own0->i.heap[j]?=W.heap[j]?)/\(o=none->X=.nilIface)/\∀z,o=some z->qah k i (λj=>F j\/(W.heap.size+3<=j/\j<i.heap.size)) X z:=cR.mono (by
  rintro e i ⟨X,bg,rfl,C,r,h3,h4,h5⟩;refine⟨X,rfl,?_,r.row _ _ _ _ a8.out (by decide) (by decide) (by decide),(KpR.of_below ar.out).trans r,C.below,λj J L M P Q=>?_,h4,λz bd=>(h5 z bd).same (λj g=>g.imp id (λh=>⟨kaj a9.out h.1,h.2⟩)) (λ_ _=>rfl)⟩
  ·have:=C.box;rw[HB.out]at this;exact this
  have:=C.fr.2 j (by rw[HG.out];exact J) L M P Q;rw[HG.out]at this;exact this)
 clear cR ax;have ak:Hid (∀(i:World),i.heap[W.heap.size+2]?=some (.cells (rwC c R) 192)->∀(j:Nat) (ah:Value),(qaK R)[j]?=some ah->i.cell? ⟨W.heap.size+2,40+j,none⟩=some ah):=λi h j ah s=>by
  refine(qaa h (40+j)).trans ?_;unfold rwC;rw[kb6 (by rw[al.out.ord.size];omega),al.out.ord.size,show 40+j-37=j+3 by omega];have g:j<4:=ltA s
  match j,g,s with
  |0,_,s=>exact s
  |1,_,s=>exact s
  |2,_,s=>exact s
  |3,_,s=>exact s
 have aq:Hid (∀R:Rep,(qaK R).all (·.oneCell')=true):=λR=>by simp[qaK,Value.oneCell']
 cases o with
 |none =>
  go_wp2_with(first
   |(go_at_call 86;refine Y.mono ?_;clear Y;rintro e f ⟨v4,rfl,I,w,l,E,H,h6,_⟩;obtain rfl:=h6 rfl;clear h6;simp only[kdh]))
  refine rgn (S:=λZ=>Z.heap[W.heap.size+2]?=some (.cells (rwC c R) 192)) (I.out) (by kernel_rfl) ?_;intro p;have w:Hid (({f with drawn:=f.drawn+1}:World).heap[W.heap.size+1]?=some (.cells (qaK (0,0,0,0)) 32)):=w;have l:Hid (KpR W {f with drawn:=f.drawn+1}):=⟨l.out.size,l.out.row⟩
  have E:Hid (Below c.W0.heap.size c.W0 {f with drawn:=f.drawn+1}):=E.out.drew;have H:Hid (∀j,j<W.heap.size->j≠c.A->j≠c.q.nb->j≠c.q.mb->some j≠c.own0->({f with drawn:=f.drawn+1}:World).heap[j]?=W.heap[j]?):=H;clear I;generalize({f with drawn:=f.drawn+1}:World)=w5 at *;refine tkp 0 20 (.iface 196 (.agg #[])) p ?_;refine tkp 1 21 (.pointer (some ⟨W.heap.size+2,40,none⟩)) p ?_;refine tkq 2 22 (.agg (qaK R)) rfl (λZ hZ=>?y2) p ?_
  case y2=>exact qxG 32 (.tmp 21) rfl (W.heap.size+2) 40 rfl (qaK R) _ (ak.out Z hZ) underlying32 rfl (qbk R)
  refine tkp 3 4 (.iface 196 (.agg #[])) p ?_;have ae:(λZ:World=>Z.heap[W.heap.size+2]?=some (.cells (rwC c R) 192)) (World.setRow w5 (W.heap.size+1) (qaK R)):=sx (by omega) p;refine rdq 4 (λba U=>?_);refine ifw (by kernel_rfl) ?_;refine kbL 32 (.tmp 5) (.tmp 22) rfl (W.heap.size+1) (qaK R) rfl rfl 32 (qaK (0,0,0,0)) w.out (qbk R) rfl (aq.out R) ?_;refine U.out _ _ ae (λ_=>?_);clear U;refine wdn ?_;go_simp
  go_wp2_with fail
  refine kaw (qhs results61 _ _ (W.heap.size+1) 32 (qaK R) (0,0) _ rfl (kaA _ _ _ _ _ _ w.out) underlying32 rfl (qbk R) _ rfl) rfl ?_;have ad:KpR W (World.setRow w5 (W.heap.size+1) (qaK R)):=⟨by have:=l.out.size;simpa using this,λj cs t fr a ac c d=>(kb3 _ _ _ _ (by have:=ltA a;omega)).trans (l.out.row j cs t fr a ac c d)⟩
  have af:c.W0.heap.size<=W.heap.size+1:=au.out;refine⟨_,_,rfl,ad,qai E.out af _,λj J L M P Q=>sx (by omega) (H.out j J L M P Q),?_⟩;exact a6.out _ _
 |some z =>
  go_wp2_with(first
   |(go_at_call 86;refine Y.mono ?_;clear Y;rintro e f ⟨v4,rfl,I,w,l,E,H,_,h7⟩;obtain⟨u,y4,rfl⟩:=(h7 z rfl).iface;have H7:Hid (qah k f (λj=>F j\/(W.heap.size+3<=j/\j<f.heap.size)) (.iface u y4) z):=h7 z rfl;clear h7;simp only[kdV]))
  refine rgn (S:=λZ=>Z.heap[W.heap.size+2]?=some (.cells (rwC c R) 192)) (I.out) (by kernel_rfl) ?_;intro p;have w:Hid (({f with drawn:=f.drawn+1}:World).heap[W.heap.size+1]?=some (.cells (qaK (0,0,0,0)) 32)):=w;have l:Hid (KpR W {f with drawn:=f.drawn+1}):=⟨l.out.size,l.out.row⟩
  have E:Hid (Below c.W0.heap.size c.W0 {f with drawn:=f.drawn+1}):=E.out.drew;have H:Hid (∀j,j<W.heap.size->j≠c.A->j≠c.q.nb->j≠c.q.mb->some j≠c.own0->({f with drawn:=f.drawn+1}:World).heap[j]?=W.heap[j]?):=H;have H7:Hid (qah k {f with drawn:=f.drawn+1} (λj=>F j\/(W.heap.size+3<=j/\j<({f with drawn:=f.drawn+1}:World).heap.size)) (.iface u y4) z):=qsJ H7.out;clear I;generalize({f with drawn:=f.drawn+1}:World)=w5 at *;refine tkp 0 20 (.iface u y4) p ?_;refine tkp 1 21 (.pointer (some ⟨W.heap.size+2,40,none⟩)) p ?_;refine tkq 2 22 (.agg (qaK R)) rfl (λZ hZ=>?y2) p ?_
  case y2=>exact qxG 32 (.tmp 21) rfl (W.heap.size+2) 40 rfl (qaK R) _ (ak.out Z hZ) underlying32 rfl (qbk R)
  refine tkp 3 4 (.iface u y4) p ?_;have ae:(λZ:World=>Z.heap[W.heap.size+2]?=some (.cells (rwC c R) 192)) (World.setRow w5 (W.heap.size+1) (qaK R)):=sx (by omega) p;refine rdq 4 (λba U=>?_);refine ifw (by kernel_rfl) ?_;refine kbL 32 (.tmp 5) (.tmp 22) rfl (W.heap.size+1) (qaK R) rfl rfl 32 (qaK (0,0,0,0)) w.out (qbk R) rfl (aq.out R) ?_;refine U.out _ _ ae (λ_=>?_);clear U;refine wdn ?_;go_simp
  go_wp2_with fail
  refine kaw (qhs results61 _ _ (W.heap.size+1) 32 (qaK R) (0,0) _ rfl (kaA _ _ _ _ _ _ w.out) underlying32 rfl (qbk R) _ rfl) rfl ?_;have ad:KpR W (World.setRow w5 (W.heap.size+1) (qaK R)):=⟨by have:=l.out.size;simpa using this,λj cs t fr a ac c d=>(kb3 _ _ _ _ (by have:=ltA a;omega)).trans (l.out.row j cs t fr a ac c d)⟩
  have af:c.W0.heap.size<=W.heap.size+1:=au.out;refine⟨_,_,rfl,ad,qai E.out af _,λj J L M P Q=>sx (by omega) (H.out j J L M P Q),?_⟩;exact H7.out.same (λj g=>g.imp id (λh=>⟨by omega,by simpa using h.2⟩)) (λj g=>kb3 _ _ _ _ (by
   rcases g with g|g
   ·have:=HF.out j g;omega
   omega))

end
end Go.Proofs.YtmajcjammmjimaaGreatDoor
