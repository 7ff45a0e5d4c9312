import Derived.Test.YtmajcjammmjimaaGreatDoorCq25
import Derived.Test.YtmajcjammmjimaaGreatDoorCq29
set_option maxRecDepth 100000
set_option maxHeartbeats 8000000
set_option linter.all false
namespace Go.Proofs.YtmajcjammmjimaaGreatDoor
open Go.Proofs.Tryz
variable{P:Program}{p u u2:Tmp}{fm:Int}{L k:Nat}{d:DataW Unit}{B:List Int}{l:List UInt8}{X:Nat->Prop}{V V' W:World}{g:Gt}{gr:Array Value}{R:Rep}{v y:Value}{r:Except Int (List UInt8)}
section
open Go.RowKit Go.Lib
theorem qfF{fn:Func}{u3:Tmp}{ty:TypeId}(h:fn.results=#[.tmp u,.cell p ty,.tmp u2,.tmp u3])(b:Array Value)(w:World)(g:Nat)(t:TypeId)(cs:Array Value)(c:Nat×Nat)(d:TypeDesc)(l:b.getD p undef=.pointer (some ⟨g,0,none⟩))(k:w.heap[g]?=some (.cells cs t c))(m:P.underlying ty=some d)(j:(match d with|.struct _|.array _ _=>true|_=>false)=true)(hi:(P.info? ty).map (·.size)=some cs.size)(v f i:Value)(n:b.getD u undef=v)(o:b.getD u2 undef=f)(q:b.getD u3 undef=i):(results fn b).run P w=.ok (.tuple #[v,.agg cs,f,i]) w:=by
 have e:(results fn b).run P w=((asAddr (b.getD p undef)).run P w).andThen λa r=>((loadVar ty a).run P r).andThen λv s=>.ok (.tuple #[b.getD u undef,v,b.getD u2 undef,b.getD u3 undef]) s:=by
  simp only[results,h];simp[kbb,Result.andThen]
 subst n;subst o;subst q;rw[e,l];simp only[asAddr,kby,kaJ,kbZ w g t ty cs c d k m j hi]
theorem qf0:(prog.info? 32).map (·.size)=some (#[Value.int .i64 0,.int .i64 0,.int .i64 0,.int .i64 0]).size:=by kernel_rfl

def poF(fm:Int)(k:Nat)(d:DataW Unit)(B:List Int):Except Int (List UInt8) :=
 if fm=1/\qcM k d=true then .error 13 else match qfX fm (wrO fm k d) B with
  |none=>.error 14
  |some l=>.ok l
theorem qmX(h:fm=1/\qcM k d=true):poF fm k d B=.error 13:=kag h
theorem qns(h:¬(fm=1/\qcM k d=true))(a:qfX fm (wrO fm k d) B=none):poF fm k d B=.error 14:=by unfold poF;rw[kac h,a]
theorem qj1(h:¬(fm=1/\qcM k d=true))(a:qfX fm (wrO fm k d) B=some l):poF fm k d B=.ok l:=by unfold poF;rw[kac h,a]
structure Frx(X:Nat->Prop)(W V:World):Prop where
 world:V.os=W.os/\V.tape=W.tape/\V.output=W.output
 rows:KpR W V
 block:∀j,j<W.heap.size->X j->V.heap[j]?=W.heap[j]?
theorem Frx.of_below(h:Below W.heap.size W V):Frx X W V:=⟨⟨h.os,h.tape,h.output⟩,KpR.of_below h,λj a _=>h.block j a⟩
theorem Frx.trans{Z:World}(h:Frx X W V)(g:Frx X V Z):Frx X W Z:=⟨⟨g.world.1.trans h.world.1,g.world.2.1.trans h.world.2.1,g.world.2.2.trans h.world.2.2⟩,h.rows.trans g.rows,λj a b=>(g.block j (kai a h.rows.size) b).trans (h.block j a b)⟩
theorem Frx.set(h:Frx X W V){g:Nat}(f:W.heap.size<=g)(cs:Array Value):Frx X W (V.setRow g cs):=by
 refine⟨h.world,⟨by have:=h.rows.size;simpa using this,λj cs t e a b c d=>(kb3 _ _ _ _ (by have:=ltA a;omega)).trans (h.rows.row j cs t e a b c d)⟩,λj a b=>sx (by omega) (h.block j a b)⟩
theorem Frx.alloc(h:Frx X W V)(o:Obj):Frx X W (V.alloc o):=h.trans (Frx.of_below bwA)
theorem Frx.drew(h:Frx X W V):Frx X W {V with drawn:=V.drawn+1}:=⟨h.world,⟨h.rows.size,h.rows.row⟩,h.block⟩
theorem qem{fn:Func}{ty:TypeId}(h:fn.results=#[.tmp u,.cell p ty,.tmp u2])(b:Array Value)(w:World)(g:Nat)(t:TypeId)(cs:Array Value)(c:Nat×Nat)(d:TypeDesc)(k:b.getD p undef=.pointer (some ⟨g,0,none⟩))(j:w.heap[g]?=some (.cells cs t c))(l:P.underlying ty=some d)(i:(match d with|.struct _|.array _ _=>true|_=>false)=true)(hi:(P.info? ty).map (·.size)=some cs.size)(v f:Value)(m:b.getD u undef=v)(n:b.getD u2 undef=f):(results fn b).run P w=.ok (.tuple #[v,.agg cs,f]) w:=by
 have e:(results fn b).run P w=((asAddr (b.getD p undef)).run P w).andThen λa o=>((loadVar ty a).run P o).andThen λv q=>.ok (.tuple #[b.getD u undef,v,b.getD u2 undef]) q:=by
  simp only[results,h];simp[kbb,Result.andThen]
 subst m;subst n;rw[e,k];simp only[asAddr,kby,kaJ,kbZ w g t ty cs c d j l i hi]
def poR(R:Rep)(r:Except Int (List UInt8)):Rep:=match r with
 |.ok _=>R
 |.error _=>(0,0,0,0)
def poE(r:Except Int (List UInt8)):Int:=match r with
 |.ok _=>0
 |.error en=>en
def PoV(V:World)(base:Nat)(v:Value)(r:Except Int (List UInt8)):Prop:=match r with
 |.ok l=>Own V base v l
 |.error _=>v=.slice none 0 0
def qnf(X:Nat->Prop)(W:World)(R:Rep)(r:Except Int (List UInt8))(e:Ending)(V':World):Prop :=
 ∃va vn vc,e=.returned (.tuple #[.slice va vn vc,.agg (qaK (poR R r)),.int .i64 (poE r)])/\Frx X W V'/\PoV V' W.heap.size (.slice va vn vc) r
def qiB(X:Nat->Prop)(N k:Nat)(U:World)(R:Rep)(d:DataW Unit)(e:Ending)(V':World):Prop :=
 ∃t' y',e=.returned (.tuple #[.iface t' y',.agg (qaK R)])/\Frx X U V'/\qah k V' (λj=>j<N\/(U.heap.size<=j/\j<V'.heap.size)) (.iface t' y') d
structure quU(X:Nat->Prop)(W:World)(L:Nat)(gr:Array Value)(N8 k:Nat)(R:Rep)(t:TypeId)(y:Value)(d:DataW Unit)(V:World):Prop where
 fr:Frx X W V
 gate:V.heap[L]?=some (.cells gr 96)
 res:V.heap[W.heap.size]?=some (.cells (qaK (0,0,0,0)) 32)
 rep:V.heap[N8]?=some (.cells (qaK R) 32)
 lt:W.heap.size<N8
 thg:qah k V (λj=>j<V.heap.size) (.iface t y) d
theorem quU.step{N8:Nat}{t:TypeId}(h:quU X W L gr N8 k R t y d V)(a:Below V.heap.size V V'):quU X W L gr N8 k R t y d V' :=
 ⟨h.fr.trans (Frx.of_below a),(a.block _ (ltA h.gate)).trans h.gate,(a.block _ (ltA h.res)).trans h.res,(a.block _ (ltA h.rep)).trans h.rep,h.lt,h.thg.same (λ_ b=>kai b a.size) (λj b=>a.block j b)⟩
theorem qzF{t:TypeId}(b:W.heap[L]?=some (.cells gr 96))(hF:Frx X (W.alloc (.cells #[.int .i64 0,.int .i64 0,.int .i64 0,.int .i64 0] 32)) V')(f:qah k V' (λj=>j<W.heap.size\/((W.alloc (.cells #[.int .i64 0,.int .i64 0,.int .i64 0,.int .i64 0] 32)).heap.size<=j/\j<V'.heap.size)) (.iface t y) d):quU X W L gr V'.heap.size k R t y d (V'.alloc (.cells (qaK R) 32)):=by
 have e:W.heap.size<V'.heap.size:=by have h:=hF.rows.size;rw[kad]at h;omega
 have c:=ltA b;refine⟨?_,?_,?_,qac V' _,e,?_⟩
 ·exact((Frx.of_below bwA).trans hF).alloc _
 ·exact(kae _ _ _ (by omega)).trans (hF.rows.row L _ _ _ ((kae W _ _ c).trans b) (by decide) (by decide) (by decide))
 ·exact(kae _ _ _ (by omega)).trans (hF.rows.row W.heap.size _ _ _ (qac W _) (by decide) (by decide) (by decide))
 refine f.same (λj a=>?_) (λj a=>kae _ _ _ ?_)
 ·rw[kad];rcases a with a|a<;>omega
 rcases a with a|a<;>omega

theorem qv8(k:Nat)(d:DataW Unit):wrO 1 k d=qaM k d:=kag rfl
theorem qwF(k:Nat)(d:DataW Unit):wrO 2 k d=qbc k d:=by unfold wrO;rw[kac (by decide),kag rfl]
theorem qvH(k:Nat)(d:DataW Unit):wrO 3 k d=qdn k d:=by unfold wrO;rw[kac (by decide),kac (by decide)]
theorem qu5(a:Int)(k:Nat)(V:World)(t:TypeId)(y:Value)(d:DataW Unit)(l:a=1\/a=2\/a=3)(c:qah k V (λj=>j<V.heap.size) (.iface t y) d)(m:szF k d<=999999999)(i:qgc V.heap.size V):Calls prog 34 #[.int .i64 a,.iface t y] V λe f=>∃g,e=.returned g/\Own f V.heap.size g (wrO a k d)/\Below V.heap.size V f:=by
 have b:=kaj (qpm a c) m;rcases l with rfl|rfl|rfl
 ·rw[qv8]at b ⊢;exact qiO k V _ _ d (λ_ h=>h) i c b
 ·rw[qwF]at b ⊢;exact qeH k V _ _ d (λ_ h=>h) c b
 rw[qvH]at b ⊢;exact qiE k V _ _ d (λ_ h=>h) c b
theorem qt6(a:Int)(k:Nat)(V:World)(t:TypeId)(y:Value)(d:DataW Unit)(l:a=1\/a=2\/a=3)(g:qah k V (λj=>j<V.heap.size) (.iface t y) d)(n:szF k d<=999999999)(i:∀U,Below V.heap.size V U->qgc U.heap.size U)(m:¬(a=1/\qcM k d=true)):Calls prog 14 #[.int .i64 a,.iface t y] V λe f=>∃h,e=.returned (.tuple #[h,.int .i64 0])/\Own f V.heap.size h (wrO a k d)/\Below V.heap.size V f :=
 qig k V a t y d _ g m (λU b=>qu5 a k U t y d l (g.same (λ_ c=>kai c b.size) (λj c=>b.block j c)) n (i U b))
structure WrP(fm:Int)(k:Nat)(d:DataW Unit):Prop where
 ok:∀V t y,qah k V (λj=>j<V.heap.size) (.iface t y) d->(∀U,Below V.heap.size V U->qgc U.heap.size U)->¬(fm=1/\qcM k d=true)->Calls prog 14 #[.int .i64 fm,.iface t y] V λe V'=>∃v',e=.returned (.tuple #[v',.int .i64 0])/\Own V' V.heap.size v' (wrO fm k d)/\Below V.heap.size V V'
 kind:qcM k d=true->∀V t y,qah k V (λj=>j<V.heap.size) (.iface t y) d->Calls prog 14 #[.int .i64 1,.iface t y] V λe V'=>e=.returned (.tuple #[.slice none 0 0,.int .i64 13])/\Below V.heap.size V V'
 len:∀V t y,qah k V (λj=>j<V.heap.size) (.iface t y) d->(wrO fm k d).length<=999999999
theorem qsu(e:fm=1\/fm=2\/fm=3)(b:szF k d<=999999999):WrP fm k d :=
 ⟨λV t y a c g=>qt6 fm k V t y d e a b c g,λf V t y a=>qdD k V t y d a f,λ_ _ _ a=>kaj (qpm fm a) b⟩
theorem qmt:(#[Value.int .i64 0,.int .i64 0,.int .i64 0,.int .i64 0]).all (·.oneCell')=true:=by simp[Value.oneCell']
theorem qfk(R:Rep):(qaK R).all (·.oneCell')=true:=by simp[qaK,Value.oneCell']
theorem qyH(R S:Rep):(qaK R).size=(qaK S).size:=rfl
theorem qzA(d:g.rc.size=40){fed:Value}{cl:Bool}(b:V.heap[L]?=some (.cells (qaz g fed cl) 96)):∀(j:Nat) (u:Value),g.rc[j]?=some u->V.cell? ⟨L,4+j,none⟩=some u:=by
 intro j u a;refine(qaa b (4+j)).trans ?_;have c:j<40:=by have:=ltA a;omega
 unfold qaz;rw[kbN (by simp;omega),kb6 (by simp)];simpa using a
theorem qi2{base N:Nat}{cs cs':Array Value}(h:Own W base v l)(j:W.heap[N]?=some (.cells cs 32)):Own (W.setRow N cs') base v l:=by
 refine⟨⟨h.1.1,?_⟩,by have:=h.2.1;simpa using this,h.2.2⟩;rcases h.1.2 with b|⟨g,c,d,b,f,a,i⟩
 ·exact .inl b
 refine .inr ⟨g,c,d,b,f,(kb3 _ _ _ _ (λe=>?_)).trans a,i⟩;subst e;rw[j]at a;injection a with a;injection a with _ a _;exact absurd a (by decide)
theorem qzj(a:g.rc.size=40):(prog.info? 93).map (·.size)=some g.rc.size:=by rw[a];kernel_rfl
theorem qnY(X:Nat->Prop)(k:Nat)(W:World)(L:Nat)(g:Gt)(av:g.rc.size=40)(u:Value)(s:Bool)(M:W.heap[L]?=some (.cells (qaz g u s) 96))(t:TypeId)(y:Value)(R:Rep)(d:DataW Unit)(ba:Option Addr)(A:Nat)(B:List Int)(au:g.bk=.slice ba B.length A)(aq:B.length<=8)(ap:∀i (a1:i<B.length),B[i]<=65536)(wp:WrP g.out k d)(hI:∀V,Frx X W V->qc9 V ba B)(hT:∀V,Frx X W V->qgc V.heap.size V)(cR:∀U,Below W.heap.size W U->Calls prog 61 #[.agg g.rc,.iface t y] U (qiB X W.heap.size k U R d)):Calls prog 40 #[.pointer (some ⟨L,0,none⟩),.iface t y] W (qnf X W R (poF g.out k d B)):=by
 have hL:L<W.heap.size:=ltA M;have HG:Hid (W.heap[L]?=some (.cells (qaz g u s) 96)):=M;have Q:Hid (g.rc.size=40):=av;have an:Calls prog 61 #[.agg g.rc,.iface t y] (W.alloc (.cells #[.int .i64 0,.int .i64 0,.int .i64 0,.int .i64 0] 32)) λe V'=>∃p q,e=.returned (.tuple #[.iface p q,.agg (qaK R)])/\Hid (quU X W L (qaz g u s) V'.heap.size k R p q d (V'.alloc (.cells (qaK R) 32))):=(cR _ bwA).mono (by
  rintro e V' ⟨p,q,rfl,h1,h2⟩;exact⟨p,q,rfl,qzF M h1 h2⟩)
 have HI:Hid (∀V,Frx X W V->qc9 V ba B):=hI;have HT:Hid (∀V,Frx X W V->qgc V.heap.size V):=hT;have aw:Hid (∀i (a1:i<B.length),B[i]<=65536):=ap;have ax:Hid (B.length<=8):=aq;have G:=qab wp;have ah:Hid (g.bk=.slice ba B.length A):=au;have ak:Hid ((W.alloc (.cells #[.int .i64 0,.int .i64 0,.int .i64 0,.int .i64 0] 32)).heap[L]?=some (.cells (qaz g u s) 96)):=(kae W _ _ hL).trans M;clear cR hI hT ap aq wp au M av;go_enter func40,ntmps40
 go_wp2_with(first
  |(refine qeg 93 (.tmp 16) rfl rfl L 4 rfl g.rc _ (qzA Q.out ak.out) underlying93 rfl (qzj Q.out) ?_)
  |fail)
 refine an.mono ?_;clear an ak;rintro e N ⟨p,q,rfl,c⟩;obtain⟨a,al⟩:∃a,Hid (N.alloc (.cells (qaK R) 32)=a):=⟨_,rfl⟩
 obtain⟨b,x⟩:∃b,Hid (N.heap.size=b):=⟨_,rfl⟩
 rw[al.out,x.out]at c;have O:Hid ((N.alloc (.cells #[.int .i64 0,.int .i64 0,.int .i64 0,.int .i64 0] 32)).heap[b]?=some (.cells (qaK (0,0,0,0)) 32)):=by show _=_;rw[<-x.out];exact qac N _
 have T:Hid ((N.alloc (.cells #[.int .i64 0,.int .i64 0,.int .i64 0,.int .i64 0] 32)).setRow b (qaK R)=a):=by show _=_;rw[<-x.out,<-al.out];exact kaB _ _ _ _
 have c1:a.cell? ⟨L,1,none⟩=some (.int .i64 g.out):=(qaa c.out.gate 1).trans (qfq _ _ 1 (by omega));by_cases w:g.out=1/\qcM k d=true
 ·have F:Hid (poF g.out k d B=.error 13):=qmX w;have C:=G.out.kind w.2 a p q c.out.thg;rw[w.1]at c1;clear w G
  go_wp2_with(first
   |(refine kan rfl 32 _ _ rfl b (qaK R) (congrArg (λn=>Value.pointer (some ⟨n,0,none⟩)) x.out) rfl 32 _ O.out (qbk R) rfl (qfk R) ?_;rw[T.out];clear O T)
   |(go_at_call 14;refine C.mono ?_;clear C c1;rintro e f ⟨rfl,H⟩;have r:Hid (quU X W L (qaz g u s) b k R p q d f):=c.out.step H;clear H c)
   |(refine kan rfl 32 _ _ rfl W.heap.size #[.int .i64 0,.int .i64 0,.int .i64 0,.int .i64 0] rfl rfl 32 _ r.out.res qf0 rfl qmt ?_))
  refine kaw (qem results40 _ _ W.heap.size 32 #[.int .i64 0,.int .i64 0,.int .i64 0,.int .i64 0] (0,0) _ rfl (kaA _ _ _ _ _ _ r.out.res) underlying32 rfl qf0 _ _ rfl rfl) rfl ?_;rw[F.out];exact⟨none,0,0,rfl,r.out.fr.set (kaf _) _,rfl⟩
 have P:Hid (¬(g.out=1/\qcM k d=true)):=w;have ai:Hid ((wrO g.out k d).length<=999999999):=G.out.len _ _ _ c.out.thg;have C:=G.out.ok a p q c.out.thg (λU hU=>HT.out U (c.out.fr.trans (Frx.of_below hU))) w;clear w G HT;obtain⟨E,HY⟩:∃E,Hid (wrO g.out k d=E):=⟨_,rfl⟩
 rw[HY.out]at ai C;obtain⟨D,ab⟩:∃D,Hid (qfX g.out E B=D):=⟨_,rfl⟩
 go_wp2_with(first
  |(refine kan rfl 32 _ _ rfl b (qaK R) (congrArg (λn=>Value.pointer (some ⟨n,0,none⟩)) x.out) rfl 32 _ O.out (qbk R) rfl (qfk R) ?_;rw[T.out];clear O T)
  |(go_at_call 14;refine C.mono ?_;clear C;rintro e f ⟨v3,rfl,af,H⟩;obtain⟨Y,n3,k3,rfl⟩:=af.2.2;have ag:Hid (Below a.heap.size a f):=H;have aj:Hid (Own f a.heap.size (.slice Y n3 k3) E):=af;clear H af c1))
 have aa:Hid (Below a.heap.size a ({f with drawn:=f.drawn+1}:World)):=ag.out.drew;have z:Hid (Own ({f with drawn:=f.drawn+1}:World) a.heap.size (.slice Y n3 k3) E):=aj.out;have r:Hid (quU X W L (qaz g u s) b k R p q d ({f with drawn:=f.drawn+1}:World)):=c.out.step aa.out;refine rgn (S:=λZ=>Z.cell? ⟨L,1,none⟩=some (.int .i64 g.out)/\Z.cell? ⟨L,44,none⟩=some (.slice ba B.length A)) (⟨(qaa r.out.gate 1).trans (qfq _ _ 1 (by omega)),((qaa r.out.gate 44).trans (qcF Q.out _ _ 0)).trans (congrArg some ah.out)⟩) (by kernel_rfl) ?_;intro o;clear ag aj;generalize({f with drawn:=f.drawn+1}:World)=w5 at *;have cF:=qtD w5 a.heap.size g.out (.slice Y n3 k3) E ba A B z.out (HI.out w5 r.out.fr) ax.out aw.out ai.out;rw[ab.out]at cF;refine tkp 0 36 (.pointer (some ⟨L,0,none⟩)) o ?_;refine tkp 1 37 (.pointer (some ⟨L,0,none⟩)) o ?_;refine tkp 2 38 (.pointer (some ⟨L,1,none⟩)) o ?_;refine tkq 3 39 (.int .i64 g.out) rfl (λZ J=>?y3) o ?_
 case y3=>(have z1:=J.1;go_simp)
 refine tkp 4 40 (.slice Y n3 k3) o ?_;refine tkp 5 41 (.pointer (some ⟨L,0,none⟩)) o ?_;refine tkp 6 42 (.pointer (some ⟨L,0,none⟩)) o ?_;refine tkp 7 43 (.pointer (some ⟨L,44,none⟩)) o ?_;refine tkq 8 44 (.slice ba B.length A) rfl (λZ J=>?y8) o ?_
 case y8=>(have z1:=J.2;go_simp)
 refine rdq 9 (λa0 I=>?_);go_simp;refine cF.mono ?_;clear cF;rintro e j ⟨⟨v4,rfl,ad,ae⟩,ao⟩;have m:Hid (quU X W L (qaz g u s) b k R p q d j):=c.out.step (aa.out.trans ao);have am:Hid (W.heap.size<=a.heap.size):=c.out.fr.rows.size;have v:(λZ:World=>Z.cell? ⟨L,1,none⟩=some (.int .i64 g.out)/\Z.cell? ⟨L,44,none⟩=some (.slice ba B.length A)) j:=⟨(qaa m.out.gate 1).trans (qfq _ _ 1 (by omega)),((qaa m.out.gate 44).trans (qcF Q.out _ _ 0)).trans (congrArg some ah.out)⟩
 simp only[];refine I.out _ _ v (λ_=>?_);clear I ao c r aa z o;refine tkp 10 35 (.tuple #[v4,.bool D.isSome]) v ?_;refine tkp 11 46 v4 v ?_;refine tkp 12 47 (.bool D.isSome) v ?_;refine tkp 13 11 v4 v ?_;refine tkp 14 12 (.bool D.isSome) v ?_;refine wdn ?_;go_simp;clear v
 cases D with
 |none =>
  have F:Hid (poF g.out k d B=.error 14):=qns P.out (by rw[HY.out];exact ab.out);obtain rfl:=ad rfl;clear P ad ae;simp only[kdh]
  go_wp2_with(first
   |(refine kan rfl 32 _ _ rfl W.heap.size #[.int .i64 0,.int .i64 0,.int .i64 0,.int .i64 0] rfl rfl 32 _ m.out.res qf0 rfl qmt ?_))
  refine kaw (qem results40 _ _ W.heap.size 32 #[.int .i64 0,.int .i64 0,.int .i64 0,.int .i64 0] (0,0) _ rfl (kaA _ _ _ _ _ _ m.out.res) underlying32 rfl qf0 _ _ rfl rfl) rfl ?_;rw[F.out];exact⟨none,0,0,rfl,m.out.fr.set (kaf _) _,rfl⟩
 |some l =>
  have F:Hid (poF g.out k d B=.ok l):=qj1 P.out (by rw[HY.out];exact ab.out);have z:Hid (Own j a.heap.size v4 l):=ae l rfl;obtain⟨h,n4,k4,rfl⟩:=z.out.2.2;clear P ad ae;simp only[kdV]
  go_wp2_with fail
  refine rgn (S:=λZ=>Z.heap[b]?=some (.cells (qaK R) 32)) (m.out.rep) (by kernel_rfl) ?_;intro K;have az:Hid (Frx X W {j with drawn:=j.drawn+1}):=m.out.fr.drew;have ac:Hid (({j with drawn:=j.drawn+1}:World).heap[W.heap.size]?=some (.cells (qaK (0,0,0,0)) 32)):=m.out.res;have ay:Hid (Own {j with drawn:=j.drawn+1} W.heap.size (.slice h n4 k4) l):=(z.out).mono am.out;have a2:W.heap.size<b:=m.out.lt;clear m z am;generalize({j with drawn:=j.drawn+1}:World)=w6 at *;refine tkp 0 51 (.slice h n4 k4) K ?_;refine tkq 1 52 (.agg (qaK R)) rfl (λZ J=>?y1) K ?_
  case y1=>exact qjp 32 (.tmp 8) (by kernel_rfl) b (congrArg (λn=>Value.pointer (some ⟨n,0,none⟩)) x.out) _ _ _ _ J underlying32 (by kernel_rfl) (qbk R)
  refine tkp 2 4 (.slice h n4 k4) K ?_;refine rdq 3 (λa0 I=>?_);refine ifw (by kernel_rfl) ?_;refine kbL 32 (.tmp 5) (.tmp 52) rfl W.heap.size (qaK R) (by kernel_rfl) (by kernel_rfl) 32 (qaK (0,0,0,0)) ac.out (qbk R) (qyH _ _) (qfk R) ?_;have ar:(λZ:World=>Z.heap[b]?=some (.cells (qaK R) 32)) (w6.setRow W.heap.size (qaK R)):=sx (by omega) K;refine I.out _ _ ar (λ_=>?_);clear I;refine tkp 4 6 (.int .i64 0) ar ?_;refine wdn ?_;go_simp
  go_wp2_with fail
  refine kaw (qem results40 _ _ W.heap.size 32 (qaK R) (0,0) _ rfl (kaA _ _ _ _ _ _ ac.out) underlying32 rfl (qbk R) _ _ rfl rfl) rfl ?_;rw[F.out];exact⟨h,n4,k4,rfl,az.out.set (kaf _) _,qi2 ay.out ac.out⟩

def gtZ:Gt:=⟨0,0,0,0,qaq 0 (λ_ _=>false)++#[.int .i64 0,.int .i64 0,.pointer none],.slice none 0 0⟩
theorem qrW:gtZ.rc.size=40:=by kernel_rfl
theorem qcK(c:g.rc.size=40)(b:Value)(a:Bool):(qaz g b a).size=47:=by unfold qaz;simp[c]
theorem qmz(ρ:Operand->Value)(o:Oper)(a:o.op=.alloc 96)(w:World):(execOp ρ o).run prog w=.ok (.value (.pointer (some ⟨w.heap.size,0,none⟩))) (w.alloc (.cells (qaz gtZ (.slice none 0 0) false) 96)):=by
 unfold execOp;rw[a];kernel_rfl
theorem qdY{ops:Array Oper}{rest:List Oper}{o:Oper}{a:Act}{w:World}{Q:Exit->Act->World->Prop}(e:o.guard=none)(f:o.op=.alloc 96)(d:Option Tmp)(c:o.dst=d)(N:Nat)(b:w.heap.size=N)(h:wpList prog ops Q rest (a.put d (.pointer (some ⟨N,0,none⟩))) (w.alloc (.cells (qaz gtZ (.slice none 0 0) false) 96))):wpList prog ops Q (o::rest) a w:=by
 subst b;exact kc1 e d c _ _ (qmz _ _ f _) h
theorem qrC:prog.built 96 [(6,.bool true)]=some (qaz gtZ (.slice none 0 0) true):=by kernel_rfl
theorem qi1{A:Array Value}(h:A.size=47):(prog.info? 96).map (·.size)=some A.size:=by rw[h];kernel_rfl
abbrev Cz:=Except (Int×Int) (Rep×Except Int (List UInt8))
def czR(z:Cz):Rep:=match z with
 |.ok (R,r)=>poR R r
 |.error _=>(0,0,0,0)
def czE(z:Cz):Int:=match z with
 |.ok (_,r)=>poE r
 |.error (en,_)=>en
def czP(z:Cz):Int:=match z with
 |.ok _=>0
 |.error (_,pl)=>pl
def CzV(V:World)(base:Nat)(v:Value)(z:Cz):Prop:=match z with
 |.ok (_,r)=>PoV V base v r
 |.error _=>v=.slice none 0 0
def clW(W:World)(L:Nat)(g:Gt)(fv:Value):World:=((W.alloc (.cells #[.int .i64 0,.int .i64 0,.int .i64 0,.int .i64 0] 32)).alloc (.cells (qaz g fv false) 96)).setRow L (qaz gtZ (.slice none 0 0) true)
structure Fry(X:Nat->Prop)(L:Nat)(W V:World):Prop where
 world:V.os=W.os/\V.tape=W.tape/\V.output=W.output
 size:W.heap.size<=V.heap.size
 rows:∀(k:Nat) (cs:Array Value) (t:TypeId) (fr:Nat×Nat),k≠L->W.heap[k]?=some (.cells cs t fr)->t≠139->t≠189->t≠192->V.heap[k]?=some (.cells cs t fr)
 block:∀j,j<W.heap.size->j≠L->X j->V.heap[j]?=W.heap[j]?
theorem Fry.set(h:Fry X L W V){g:Nat}(i:W.heap.size<=g)(cs:Array Value):Fry X L W (V.setRow g cs) :=
 ⟨h.world,by have:=h.size;simpa using this,λk cs t f a b c d e=>(kb3 _ _ _ _ (by have:=ltA b;omega)).trans (h.rows k cs t f a b c d e),λj a b c=>sx (by omega) (h.block j a b c)⟩
def qy7(X:Nat->Prop)(W:World)(L:Nat)(z:Cz)(e:Ending)(V':World):Prop :=
 ∃va vn vc,e=.returned (.tuple #[.slice va vn vc,.agg (qaK (czR z)),.int .i64 (czE z),.int .i64 (czP z)])/\Fry X L W V'/\V'.heap[L]?=some (.cells (qaz gtZ (.slice none 0 0) true) 96)/\CzV V' W.heap.size (.slice va vn vc) z
theorem qgv(W:World)(L:Nat)(g:Gt)(a:Value):(clW W L g a).heap.size=W.heap.size+2:=by simp[clW]
theorem qvd(W:World)(L:Nat)(g:Gt)(a:Value)(b:L<W.heap.size):(clW W L g a).heap[W.heap.size]?=some (.cells (qaK (0,0,0,0)) 32):=sx (by omega) ((kae _ _ _ (by simp)).trans (qac W _))
theorem qnb(W:World)(L:Nat)(g:Gt)(a:Value)(b:L<W.heap.size):(clW W L g a).heap[W.heap.size+1]?=some (.cells (qaz g a false) 96):=by
 have h:=qac (W.alloc (.cells #[.int .i64 0,.int .i64 0,.int .i64 0,.int .i64 0] 32)) (.cells (qaz g a false) 96);rw[kad]at h;exact sx (by omega) h
theorem qs6(W:World)(L:Nat)(g:Gt)(a:Value)(b:W.heap[L]?=some (.cells (qaz g a false) 96)):(clW W L g a).heap[L]?=some (.cells (qaz gtZ (.slice none 0 0) true) 96):=by
 have c:=ltA b;exact kaA _ _ _ _ _ _ ((kae _ _ _ (by rw[kad];omega)).trans ((kae _ _ _ c).trans b))
theorem qgC(W:World)(L:Nat)(g:Gt)(a:Value)(j:Nat)(b:j<W.heap.size)(c:j≠L):(clW W L g a).heap[j]?=W.heap[j]?:=(kb3 _ _ _ _ c).trans ((kae _ _ _ (by rw[kad];omega)).trans (kae _ _ _ b))
theorem qqI(W:World)(L:Nat)(g:Gt)(a:Value):(clW W L g a).os=W.os/\(clW W L g a).tape=W.tape/\(clW W L g a).output=W.output:=⟨rfl,rfl,rfl⟩
theorem Fry.of{fv:Value}(h:Frx X (clW W L g fv) V):Fry X L W V:=by
 have l:=h.rows.size;rw[qgv]at l;refine⟨h.world,by omega,λk cs t f a b c d e=>?_,λj a b c=>?_⟩
 ·have i:=ltA b;exact h.rows.row k cs t f ((qgC W L g fv k i a).trans b) c d e
 exact(h.block j (by rw[qgv];omega) c).trans (qgC W L g fv j a b)
structure q0t(X:Nat->Prop)(W W3:World)(L N11:Nat)(R:Rep)(v:Value)(r:Except Int (List UInt8))(V:World):Prop where
 fr:Frx X W3 V
 res:V.heap[W.heap.size]?=some (.cells (qaK (0,0,0,0)) 32)
 rep:V.heap[N11]?=some (.cells (qaK R) 32)
 lt:W.heap.size<N11
 gate:V.heap[L]?=some (.cells (qaz gtZ (.slice none 0 0) true) 96)
 val:PoV V W.heap.size v r
theorem PoV.same{b b':Nat}(h:PoV V b v r)(a:∀l,Own V b v l->Own V' b' v l):PoV V' b' v r:=by
 cases r with
 |ok l=>exact a l h
 |error e=>exact h
theorem qzO{W3 U:World}(e:W.heap.size<U.heap.size)(b:Frx X W3 U)(hF:Frx X U V')(c:U.heap[W.heap.size]?=some (.cells (qaK (0,0,0,0)) 32))(a:U.heap[L]?=some (.cells (qaz gtZ (.slice none 0 0) true) 96))(d:PoV V' U.heap.size v r):q0t X W W3 L V'.heap.size R v r (V'.alloc (.cells (qaK R) 32)):=by
 have f:=hF.rows.size;exact⟨(b.trans hF).alloc _,(kae _ _ _ (by omega)).trans (hF.rows.row _ _ _ _ c (by decide) (by decide) (by decide)),qac V' _,by omega,(kae _ _ _ (by have:=ltA a;omega)).trans (hF.rows.row _ _ _ _ a (by decide) (by decide) (by decide)),d.same λl h=>qhl (h.mono (by omega)) bwA⟩

theorem qod(X:Nat->Prop)(k:Nat)(W:World)(L:Nat)(g:Gt)(B:g.rc.size=40)(a:Option Addr)(c b:Nat)(ay:(qaz g (.slice a c b) false).all (·.oneCell')=true)(N:W.heap[L]?=some (.cells (qaz g (.slice a c b) false) 96))(r:Except (Int×Int) (DataW Unit))(aj:∀A pl,r=.error (A,pl)->A≠0)(ab:Cz)(cD:∀U,Below (clW W L g (.slice a c b)).heap.size (clW W L g (.slice a c b)) U->Calls prog 13 #[.int .i64 g.inF,.agg #[.int .i64 g.depth,.int .i64 g.bytes],.slice a c b] U (qey k U r))(hz:∀e,r=.error e->ab=.error e)(I:∀d,r=.ok d->∃R m,ab=.ok (R,m)/\∀V t y,Below (clW W L g (.slice a c b)).heap.size (clW W L g (.slice a c b)) V->qah k V (λj=>(clW W L g (.slice a c b)).heap.size<=j/\j<V.heap.size) (.iface t y) d->∀U,Below V.heap.size V U->Calls prog 40 #[.pointer (some ⟨W.heap.size+1,0,none⟩),.iface t y] U (qnf X U R m)):Calls prog 17 #[.pointer (some ⟨L,0,none⟩)] W (qy7 X W L ab):=by
 have hL:=ltA N;have aq:(W.alloc (.cells #[.int .i64 0,.int .i64 0,.int .i64 0,.int .i64 0] 32)).cell? ⟨L,46,none⟩=some (.bool false):=(qaa ((kae _ _ _ hL).trans N) 46).trans (qcF B _ _ 2);have w:Hid ((W.alloc (.cells #[.int .i64 0,.int .i64 0,.int .i64 0,.int .i64 0] 32)).heap[L]?=some (.cells (qaz g (.slice a c b) false) 96)):=(kae _ _ _ hL).trans N;have C:Hid (((W.alloc (.cells #[.int .i64 0,.int .i64 0,.int .i64 0,.int .i64 0] 32)).alloc (.cells (qaz g (.slice a c b) false) 96)).heap[L]?=some (.cells (qaz g (.slice a c b) false) 96)):=(kae _ _ _ (by rw[kad];omega)).trans w.out;have aa:Hid (((W.alloc (.cells #[.int .i64 0,.int .i64 0,.int .i64 0,.int .i64 0] 32)).alloc (.cells (qaz gtZ (.slice none 0 0) false) 96)).heap[W.heap.size+1]?=some (.cells (qaz gtZ (.slice none 0 0) false) 96)):=by
  have h:=qac (W.alloc (.cells #[.int .i64 0,.int .i64 0,.int .i64 0,.int .i64 0] 32)) (.cells (qaz gtZ (.slice none 0 0) false) 96);rw[kad]at h;exact h
 have H:Hid (((W.alloc (.cells #[.int .i64 0,.int .i64 0,.int .i64 0,.int .i64 0] 32)).alloc (.cells (qaz gtZ (.slice none 0 0) false) 96)).setRow (W.heap.size+1) (qaz g (.slice a c b) false)=(W.alloc (.cells #[.int .i64 0,.int .i64 0,.int .i64 0,.int .i64 0] 32)).alloc (.cells (qaz g (.slice a c b) false) 96)):=by
  have h:=kaB (W.alloc (.cells #[.int .i64 0,.int .i64 0,.int .i64 0,.int .i64 0] 32)) (qaz gtZ (.slice none 0 0) false) (qaz g (.slice a c b) false) 96;rw[kad]at h;exact h
 have F:Hid ((qaz g (.slice a c b) false).size=47):=qcK B _ _;have ah:Hid ((qaz gtZ (.slice none 0 0) true).size=47):=qcK qrW _ _;have G:Hid ((qaz gtZ (.slice none 0 0) false).size=(qaz g (.slice a c b) false).size):=by show _=_;rw[qcK B,qcK qrW]
 have x:Hid ((qaz g (.slice a c b) false).size=(qaz gtZ (.slice none 0 0) true).size):=by show _=_;rw[qcK B,qcK qrW]
 have ae:Hid ((qaz g (.slice a c b) false).all (·.oneCell')=true):=ay;have af:Hid ((qaz gtZ (.slice none 0 0) true).all (·.oneCell')=true):=by show _=_;kernel_rfl
 have v:Hid (clW W L g (.slice a c b)=((W.alloc (.cells #[.int .i64 0,.int .i64 0,.int .i64 0,.int .i64 0] 32)).alloc (.cells (qaz g (.slice a c b) false) 96)).setRow L (qaz gtZ (.slice none 0 0) true)):=rfl;have u:Hid ((clW W L g (.slice a c b)).heap[W.heap.size]?=some (.cells (qaK (0,0,0,0)) 32)):=qvd W L g _ hL;have p:Hid ((clW W L g (.slice a c b)).heap[L]?=some (.cells (qaz gtZ (.slice none 0 0) true) 96)):=qs6 W L g _ N;have am:Hid ((clW W L g (.slice a c b)).heap.size=W.heap.size+2):=qgv W L g _;have J:=qni k (clW W L g (.slice a c b)) (W.heap.size+1) g B a c b false r (qnb W L g _ hL) cD;have HP:Hid (∀d,r=.ok d->∃R m,ab=.ok (R,m)/\∀V t y,Below (clW W L g (.slice a c b)).heap.size (clW W L g (.slice a c b)) V->qah k V (λj=>(clW W L g (.slice a c b)).heap.size<=j/\j<V.heap.size) (.iface t y) d->∀U,Below V.heap.size V U->Calls prog 40 #[.pointer (some ⟨W.heap.size+1,0,none⟩),.iface t y] U (qnf X U R m)):=I;clear N B cD I ay;have ac:Hid (prog.built 96 [(6,.bool true)]=some (qaz gtZ (.slice none 0 0) true)):=qrC;obtain⟨o,ap⟩:∃o,Hid (clW W L g (.slice a c b)=o):=⟨_,rfl⟩
 have ad:Hid (∀V,Frx X (clW W L g (.slice a c b)) V->Fry X L W V):=λV h=>Fry.of h;rw[ap.out]at v u p am J HP ad;clear ap;have au:L≠W.heap.size:=by omega
 obtain⟨Y,a0⟩:∃Y,Hid (qaz g (.slice a c b) false=Y):=⟨_,rfl⟩
 obtain⟨q,D⟩:∃q,Hid (qaz gtZ (.slice none 0 0) true=q):=⟨_,rfl⟩
 rw[a0.out]at w C H F G x ae v;rw[D.out]at v p ah x af ac;rcases r with⟨A,pl⟩|d
 ·obtain rfl:=hz _ rfl;have ax:=aj A pl rfl;have e1:(A==0)=false:=by simpa using ax
  have e2:(A != 0)=true:=by simpa using ax
  clear hz aj HP;go_enter func17,ntmps17
  go_wp2_with(first
   |(refine kak rfl 96 _ rfl L rfl _ _ _ _ w.out underlying96 rfl (qi1 F.out) ?_)
   |(refine qdY rfl rfl _ rfl (W.heap.size+1) ?hN ?_;case hN=>(simp only[kad];done))
   |(refine kan rfl 96 _ _ rfl (W.heap.size+1) Y rfl rfl 96 _ aa.out (qi1 F.out) G.out ae.out ?_;rw[H.out];clear aa H)
   |(refine qal rfl 96 _ rfl _ rfl _ [(6,.bool true)] ?hl ac.out ?_;case hl=>simp[go_sem])
   |(refine kan rfl 96 _ _ rfl L q rfl rfl 96 _ C.out (qi1 ah.out) x.out af.out ?_;rw[<-v.out];clear aq w C G x v)
   |(go_at_call 39;refine J.mono ?_;clear J;rintro e n ⟨l,hF⟩;obtain rfl:=hF;have K:Hid (Frx X o n):=Frx.of_below l;have E:Hid (n.heap[W.heap.size]?=some (.cells (qaK (0,0,0,0)) 32)):=(l.block _ (ltA u.out)).trans u.out;have z:Hid (n.heap[L]?=some (.cells q 96)):=(l.block _ (ltA p.out)).trans p.out;clear l u p)
   |(refine kan rfl 32 _ _ rfl W.heap.size #[.int .i64 0,.int .i64 0,.int .i64 0,.int .i64 0] rfl rfl 32 _ E.out qf0 rfl qmt ?_))
  refine kaw (qfF results17 _ _ W.heap.size 32 #[.int .i64 0,.int .i64 0,.int .i64 0,.int .i64 0] (0,0) _ rfl (kaA _ _ _ _ _ _ E.out) underlying32 rfl qf0 _ _ _ rfl rfl rfl) rfl ?_;exact⟨none,0,0,rfl,(ad.out _ K.out).set (kaf _) _,by rw[D.out];exact(kb3 _ _ _ _ au).trans z.out,rfl⟩
 obtain⟨R,m,rfl,av⟩:=HP.out d rfl;have al:Hid (∀V t y,Below o.heap.size o V->qah k V (λj=>o.heap.size<=j/\j<V.heap.size) (.iface t y) d->∀U,Below V.heap.size V U->Calls prog 40 #[.pointer (some ⟨W.heap.size+1,0,none⟩),.iface t y] U (qnf X U R m)):=av;clear hz aj HP av;obtain⟨f,an⟩:∃f,Hid (poR R m=f):=⟨_,rfl⟩
 obtain⟨T,ak⟩:∃T,Hid (poE m=T):=⟨_,rfl⟩
 go_enter func17,ntmps17
 go_wp2_with(first
  |(refine kak rfl 96 _ rfl L rfl _ _ _ _ w.out underlying96 rfl (qi1 F.out) ?_)
  |(refine qdY rfl rfl _ rfl (W.heap.size+1) ?hN ?_;case hN=>(simp only[kad];done))
  |(refine kan rfl 96 _ _ rfl (W.heap.size+1) Y rfl rfl 96 _ aa.out (qi1 F.out) G.out ae.out ?_;rw[H.out];clear aa H)
  |(refine qal rfl 96 _ rfl _ rfl _ [(6,.bool true)] ?hl ac.out ?_;case hl=>simp[go_sem])
  |(refine kan rfl 96 _ _ rfl L q rfl rfl 96 _ C.out (qi1 ah.out) x.out af.out ?_;rw[<-v.out];clear aq w C G x v)
  |(go_at_call 39;refine J.mono ?_;clear J;rintro e n ⟨l,hF⟩;obtain⟨t,y,rfl,hT⟩:=hF;have I:=al.out n t y l hT n bwR;have K:Hid (Frx X o n):=Frx.of_below l;have E:Hid (n.heap[W.heap.size]?=some (.cells (qaK (0,0,0,0)) 32)):=(l.block _ (ltA u.out)).trans u.out;have z:Hid (n.heap[L]?=some (.cells q 96)):=(l.block _ (ltA p.out)).trans p.out;have ao:Hid (W.heap.size<n.heap.size):=by{have h:=l.size;have h2:=am.out;show _<_;omega};clear l u p al hT)
  |(go_at_call 40;refine I.mono ?_;clear I;rintro e i ⟨O,Q,P,rfl,ar,aw⟩;have s:Hid (q0t X W o L i.heap.size f (.slice O Q P) m (i.alloc (.cells (qaK f) 32))):=qzO ao.out K.out ar E.out (by rw[D.out];exact z.out) aw;clear ar aw K E z ao;rw[an.out,ak.out])
  |(refine kan rfl 32 _ _ rfl i.heap.size (qaK f) rfl rfl 32 _ (qac i _) (qbk f) rfl (qfk f) ?_;rw[kaB]))
 have M:(λZ:World=>Z.heap[i.heap.size]?=some (.cells (qaK f) 32)) { (i.alloc (.cells (qaK f) 32))with drawn:=(i.alloc (.cells (qaK f) 32)).drawn+1}:=s.out.rep;refine kaM (S:=λZ=>Z.heap[i.heap.size]?=some (.cells (qaK f) 32)) (by kernel_rfl) ?_;have a1:Hid (Frx X o { (i.alloc (.cells (qaK f) 32))with drawn:=(i.alloc (.cells (qaK f) 32)).drawn+1}):=s.out.fr.drew;have ag:Hid (({ (i.alloc (.cells (qaK f) 32))with drawn:=(i.alloc (.cells (qaK f) 32)).drawn+1}:World).heap[W.heap.size]?=some (.cells (qaK (0,0,0,0)) 32)):=s.out.res;have az:Hid (({ (i.alloc (.cells (qaK f) 32))with drawn:=(i.alloc (.cells (qaK f) 32)).drawn+1}:World).heap[L]?=some (.cells q 96)):=by show _=_;rw[<-D.out];exact s.out.gate
 have a2:Hid (PoV { (i.alloc (.cells (qaK f) 32))with drawn:=(i.alloc (.cells (qaK f) 32)).drawn+1} W.heap.size (.slice O Q P) m):=s.out.val.same λ_ h=>h;have a6:W.heap.size<i.heap.size:=s.out.lt;clear s;generalize({ (i.alloc (.cells (qaK f) 32))with drawn:=(i.alloc (.cells (qaK f) 32)).drawn+1}:World)=w6 at *;generalize i.heap.size=N8 at *;refine tkp 0 39 (.slice O Q P) M ?_;refine tkq 1 40 (.agg (qaK f)) rfl (λZ hZ=>?y1) M ?_
 case y1=>exact qjp 32 (.tmp 11) (by kernel_rfl) N8 (by kernel_rfl) _ _ _ _ hZ underlying32 (by kernel_rfl) (qbk f)
 refine tkp 2 41 (.int .i64 T) M ?_;refine tkp 3 2 (.slice O Q P) M ?_;refine rdq 4 (λa5 hK=>?_);refine ifw (by kernel_rfl) ?_;refine kbL 32 (.tmp 3) (.tmp 40) rfl W.heap.size (qaK f) (by kernel_rfl) (by kernel_rfl) 32 (qaK (0,0,0,0)) ag.out (qbk f) (qyH _ _) (qfk f) ?_;have ai:(λZ:World=>Z.heap[N8]?=some (.cells (qaK f) 32)) (w6.setRow W.heap.size (qaK f)):=sx (by omega) M;refine hK.out _ _ ai (λ_=>?_);clear hK;refine tkp 5 4 (.int .i64 T) ai ?_;refine tkp 6 5 (.int .i64 0) ai ?_;refine wdn ?_;go_simp
 go_wp2_with fail
 refine kaw (qfF results17 _ _ W.heap.size 32 (qaK f) (0,0) _ rfl (kaA _ _ _ _ _ _ ag.out) underlying32 rfl (qbk f) _ _ _ rfl rfl rfl) rfl ?_;have a4:=an.out;have a3:=ak.out;subst a4;subst a3;exact⟨O,Q,P,rfl,(ad.out _ a1.out).set (kaf _) _,by rw[D.out];exact(kb3 _ _ _ _ au).trans az.out,a2.out.same λ_ h=>qi2 h ag.out⟩

end
end Go.Proofs.YtmajcjammmjimaaGreatDoor
