import Derived.Lib.MakeNoZero
import Derived.Laws.CopyOwn
import Derived.Test.YtmajcjammmjimaaGreatDoorCq19
import Derived.Test.YtmajcjammmjimaaGreatDoorCq21
set_option maxRecDepth 100000
set_option maxHeartbeats 8000000
set_option linter.all false
namespace Go.Proofs.YtmajcjammmjimaaGreatDoor
open Go.Proofs.Tryz
variable{P:Program}{V W:World}{o:Oper}{v:Value}{N n:Nat}{b:UInt8}{cur:List Value}
section
open Go.RowKit
def qtu(k:Nat)(W:World)(r:Except (Int×Int) (DataW Unit))(e:Ending)(W':World):Prop :=
 Below W.heap.size W W'/\match r with
 |.ok d=>∃t y,e=.returned (.tuple #[.iface t y,.int .i64 0,.int .i64 0])/\qah k W' (λj=>W.heap.size<=j/\j<W'.heap.size) (.iface t y) d
 |.error (en,pl)=>e=.returned (.tuple #[.nilIface,.int .i64 en,.int .i64 pl])
theorem qnW(k:Nat)(W:World)(B:Array Value)(r:Except (Int×Int) (DataW Unit))(z:Calls prog 12 B ((W.alloc (.cells #[.int .i64 0] 28)).alloc (.cells #[.int .i64 0] 3)) (qey k ((W.alloc (.cells #[.int .i64 0] 28)).alloc (.cells #[.int .i64 0] 3)) r)):Calls prog 11 #[.func (.func 12) #[] B] W (qtu k W r):=by
 have T:∀(C:Fn) (first A:Array Value) (w:World),(Instr.makeFunc C first A).run prog w=.ok (.func C first A) w:=λ_ _ _ _=>rfl;have v:Below W.heap.size W ((W.alloc (.cells #[.int .i64 0] 28)).alloc (.cells #[.int .i64 0] 3)):=(bwA).alloc (by simp) _;have F:=Boxed.new W 28 (.int .i64 0);have s:=Boxed.new (W.alloc (.cells #[.int .i64 0] 28)) 3 (.int .i64 0);have G:=F.alloc (.cells #[.int .i64 0] 3);rw[kad]at s;have g:Hid (Below W.heap.size W ((W.alloc (.cells #[.int .i64 0] 28)).alloc (.cells #[.int .i64 0] 3))):=v;have h:Hid (Boxed ((W.alloc (.cells #[.int .i64 0] 28)).alloc (.cells #[.int .i64 0] 3)) W.heap.size 28 (.int .i64 0)):=G;have i:Hid (Boxed ((W.alloc (.cells #[.int .i64 0] 28)).alloc (.cells #[.int .i64 0] 3)) (W.heap.size+1) 3 (.int .i64 0)):=s;clear v F s G
 go_enter_defers func11,ntmps11
 go_wp2_with fail
 refine z.mono ?_;clear z;rcases r with⟨J,N⟩|d
 ·rintro e a ⟨b,hF⟩;obtain rfl:=hF;have q1:Boxed a W.heap.size 28 (.int .i64 0):=(b.block _ h.out.lt).trans h.out;have c:Boxed a (W.heap.size+1) 3 (.int .i64 0):=(b.block _ i.out.lt).trans i.out;have l:Below W.heap.size W a:=g.out.trans (b.mono g.out.size);have o:Hid (Boxed a W.heap.size 28 (.int .i64 0)):=q1;have p:Hid (Boxed a (W.heap.size+1) 3 (.int .i64 0)):=c;have n:Hid (Below W.heap.size W a):=l;clear q1 c l b g h i;go_wp2;refine kcI (f:=31) (args:=#[.pointer (some ⟨W.heap.size,0,none⟩),.pointer (some ⟨W.heap.size+1,0,none⟩)]) (by simp) (by simp[go_sem]) ?_;refine(qhY W.heap.size (W.heap.size+1) J N 0 0 a o.out.cell p.out.cell o.out.frozen p.out.frozen (by omega)).mono ?_;rintro e Q H ⟨rfl,rfl,x,c2,I⟩;have q:Below W.heap.size W H:=n.out.trans (I _ (kaf _) (by omega) n.out.size);simp[Leaves,settle,results,results11,go_sem,x,c2,qtu,q]
 rintro e a ⟨b,E⟩;obtain⟨t,y,rfl,D⟩:=(show∃t y,e=.returned (.iface t y)/\qah k a (λj=>((W.alloc (.cells #[.int .i64 0] 28)).alloc (.cells #[.int .i64 0] 3)).heap.size<=j/\j<a.heap.size) (.iface t y) d from E)
 have u:Hid (qah k a (λj=>W.heap.size+2<=j/\j<a.heap.size) (.iface t y) d):=D.same (λj m=>⟨by have:=m.1;simp only[kad]at this;omega,m.2⟩) (λ_ _=>rfl);clear E D;have q1:Boxed a W.heap.size 28 (.int .i64 0):=(b.block _ h.out.lt).trans h.out;have c:Boxed a (W.heap.size+1) 3 (.int .i64 0):=(b.block _ i.out.lt).trans i.out;have l:Below W.heap.size W a:=g.out.trans (b.mono g.out.size);have o:Hid (Boxed a W.heap.size 28 (.int .i64 0)):=q1;have p:Hid (Boxed a (W.heap.size+1) 3 (.int .i64 0)):=c;have n:Hid (Below W.heap.size W a):=l;have x:=q1.cell;have f1:=q1.frozen;have c2:=c.cell;have R:=c.frozen;clear q1 c l b g h i;go_wp2;have K:=grownBy_setCell' a W.heap.size (.int .i64 0);have L:=grownBy_setCell' (a.setCell ⟨W.heap.size,0,none⟩ (.int .i64 0)) (W.heap.size+1) (.int .i64 0);have O:=((o.out.set (.int .i64 0)).kept L (by intro e;injection e with e;omega)).cell;have P:=(Boxed.set (.int .i64 0) (p.out.kept K (by intro e;injection e with e;omega))).cell;have q:Below W.heap.size W ((a.setCell ⟨W.heap.size,0,none⟩ (.int .i64 0)).setCell ⟨W.heap.size+1,0,none⟩ (.int .i64 0)) :=
  n.out.trans ⟨rfl,rfl,rfl,by simp[World.setCell],λk S=>(kat _ _ _ _ (by simp;omega)).trans (kat a _ _ _ (by simp;omega))⟩
 have M:qah k ((a.setCell ⟨W.heap.size,0,none⟩ (.int .i64 0)).setCell ⟨W.heap.size+1,0,none⟩ (.int .i64 0)) (λj=>W.heap.size<=j/\j<((a.setCell ⟨W.heap.size,0,none⟩ (.int .i64 0)).setCell ⟨W.heap.size+1,0,none⟩ (.int .i64 0)).heap.size) (.iface t y) d:=u.out.same (λj m=>⟨by omega,by simp[World.setCell];exact m.2⟩) (λj m=>(kat _ _ _ _ (by simp;omega)).trans (kat a _ _ _ (by simp;omega)));clear u;generalize(a.setCell ⟨W.heap.size,0,none⟩ (.int .i64 0)).setCell ⟨W.heap.size+1,0,none⟩ (.int .i64 0)=V at *;refine kcI (f:=31) (args:=#[.pointer (some ⟨W.heap.size,0,none⟩),.pointer (some ⟨W.heap.size+1,0,none⟩)]) (by simp) (by simp[go_sem]) ?_;refine(qij ⟨W.heap.size,0,none⟩ ⟨W.heap.size+1,0,none⟩ V).mono ?_;rintro e Q H ⟨rfl,rfl,rfl⟩;simp[Leaves,settle,results,results11,go_sem,O,P,qtu,q];exact⟨t,y,⟨rfl,rfl⟩,M⟩
theorem qjT(k:Nat)(W:World)(v:Array Value)(r:Except (Int×Int) (DataW Unit))(D:Calls prog 60 v ((W.alloc (.cells #[.int .i64 0] 28)).alloc (.cells #[.int .i64 0] 3)) (qey k ((W.alloc (.cells #[.int .i64 0] 28)).alloc (.cells #[.int .i64 0] 3)) r)):Calls prog 11 #[.func (.func 60) #[] v] W (qtu k W r):=by
 have T:∀(x:Fn) (first u:Array Value) (w:World),(Instr.makeFunc x first u).run prog w=.ok (.func x first u) w:=λ_ _ _ _=>rfl;have B:Below W.heap.size W ((W.alloc (.cells #[.int .i64 0] 28)).alloc (.cells #[.int .i64 0] 3)):=(bwA).alloc (by simp) _;have K:=Boxed.new W 28 (.int .i64 0);have z:=Boxed.new (W.alloc (.cells #[.int .i64 0] 28)) 3 (.int .i64 0);have L:=K.alloc (.cells #[.int .i64 0] 3);rw[kad]at z;have h:=qab B;have l:=qab L;have m:=qab z
 go_enter_defers func11,ntmps11
 go_wp2_with fail
 refine D.mono ?_;rcases r with⟨E,M⟩|d
 ·rintro e a ⟨b,hF⟩;obtain rfl:=hF;have q1:Boxed a W.heap.size 28 (.int .i64 0):=(b.block _ l.out.lt).trans l.out;have g:Boxed a (W.heap.size+1) 3 (.int .i64 0):=(b.block _ m.out.lt).trans m.out;have p:=h.out.trans (b.mono h.out.size);have n:=qab q1;have o:=qab g;have i:=qab p;go_wp2;refine kcI (f:=31) (args:=#[.pointer (some ⟨W.heap.size,0,none⟩),.pointer (some ⟨W.heap.size+1,0,none⟩)]) (by simp) (by simp[go_sem]) ?_;refine(qhY W.heap.size (W.heap.size+1) E M 0 0 a n.out.cell o.out.cell n.out.frozen o.out.frozen (by omega)).mono ?_;rintro e P Q ⟨rfl,rfl,s,c2,C⟩;have q:=i.out.trans (C _ (kaf _) (by omega) i.out.size);simp[Leaves,settle,results,results11,go_sem,s,c2,qtu,q]
 rintro e a ⟨b,J⟩;obtain⟨t,y,rfl,H⟩:=(show∃t y,e=.returned (.iface t y)/\qah k a (λj=>((W.alloc (.cells #[.int .i64 0] 28)).alloc (.cells #[.int .i64 0] 3)).heap.size<=j/\j<a.heap.size) (.iface t y) d from J)
 have A:Hid (qah k a (λj=>W.heap.size+2<=j/\j<a.heap.size) (.iface t y) d):=H.same (λj c=>⟨by have:=c.1;simp only[kad]at this;omega,c.2⟩) (λ_ _=>rfl);have q1:Boxed a W.heap.size 28 (.int .i64 0):=(b.block _ l.out.lt).trans l.out;have g:Boxed a (W.heap.size+1) 3 (.int .i64 0):=(b.block _ m.out.lt).trans m.out;have p:=h.out.trans (b.mono h.out.size);have n:=qab q1;have o:=qab g;have i:=qab p;have s:=q1.cell;have f1:=q1.frozen;have c2:=g.cell;have R:=g.frozen;go_wp2;have F:=grownBy_setCell' a W.heap.size (.int .i64 0);have G:=grownBy_setCell' (a.setCell ⟨W.heap.size,0,none⟩ (.int .i64 0)) (W.heap.size+1) (.int .i64 0);have N:=((n.out.set (.int .i64 0)).kept G (by intro e;injection e with e;omega)).cell;have O:=(Boxed.set (.int .i64 0) (o.out.kept F (by intro e;injection e with e;omega))).cell;have q:Below W.heap.size W ((a.setCell ⟨W.heap.size,0,none⟩ (.int .i64 0)).setCell ⟨W.heap.size+1,0,none⟩ (.int .i64 0)) :=
  i.out.trans ⟨rfl,rfl,rfl,by simp[World.setCell],λk S=>(kat _ _ _ _ (by simp;omega)).trans (kat a _ _ _ (by simp;omega))⟩
 have I:qah k ((a.setCell ⟨W.heap.size,0,none⟩ (.int .i64 0)).setCell ⟨W.heap.size+1,0,none⟩ (.int .i64 0)) (λj=>W.heap.size<=j/\j<((a.setCell ⟨W.heap.size,0,none⟩ (.int .i64 0)).setCell ⟨W.heap.size+1,0,none⟩ (.int .i64 0)).heap.size) (.iface t y) d:=A.out.same (λj c=>⟨by omega,by simp[World.setCell];exact c.2⟩) (λj c=>(kat _ _ _ _ (by simp;omega)).trans (kat a _ _ _ (by simp;omega)));generalize(a.setCell ⟨W.heap.size,0,none⟩ (.int .i64 0)).setCell ⟨W.heap.size+1,0,none⟩ (.int .i64 0)=V at *;refine kcI (f:=31) (args:=#[.pointer (some ⟨W.heap.size,0,none⟩),.pointer (some ⟨W.heap.size+1,0,none⟩)]) (by simp) (by simp[go_sem]) ?_;refine(qij ⟨W.heap.size,0,none⟩ ⟨W.heap.size+1,0,none⟩ V).mono ?_;rintro e P Q ⟨rfl,rfl,rfl⟩;simp[Leaves,settle,results,results11,go_sem,N,O,qtu,q];exact⟨t,y,⟨rfl,rfl⟩,I⟩
theorem qlR(p q:Addr)(w:World):CallsD prog 41 #[.pointer (some p),.pointer (some q)] .returning w λe c d=>e=.returned (.tuple #[])/\c=.returning/\d=w:=by
 refine kdv func41 rfl λa cs b=>?_;simp only[ntmps41,kaT,kah,kay,Nat.reduceAdd,Nat.reduceSub,kbz,kb0,kbG,kb4,kbl,kbo];apply wpS_seq;apply keb;simp[wpOpsS,go_sem,recoverD,b,Exit.thenS];refine ket ?_;go_wp2;cases a
 simp_all[bodyPostS,results,results41]
theorem qms(p q:Nat)(a b x y:Int)(w:World)(c:w.cell? ⟨p,0,none⟩=some (.int .i64 x))(d:w.cell? ⟨q,0,none⟩=some (.int .i64 y))(n:w.frozen? ⟨p,0,none⟩=false)(o:w.frozen? ⟨q,0,none⟩=false)(h:p≠q):CallsD prog 41 #[.pointer (some ⟨p,0,none⟩),.pointer (some ⟨q,0,none⟩)] (.panicking [{v:=qdB a b,recovered:=false}]) w λe K i=>e=.returned (.tuple #[])/\K=.panicking [{v:=qdB a b,recovered:=true}] /\
   (i.cell? ⟨p,0,none⟩=some (.int .i64 a)/\i.cell? ⟨q,0,none⟩=some (.int .i64 b)/\∀B,B<=p->B<=q->B<=w.heap.size->Below B w i):=by
 refine kdv func41 rfl λL cs G=>?_;simp only[ntmps41,kaT,kah,kay,Nat.reduceAdd,Nat.reduceSub,kbz,kb0,kbG,kb4,kbl,kbo];apply wpS_seq;apply keb;simp[wpOpsS,go_sem,recoverD,G,Exit.thenS,qdB];refine ket ?_;have F:∀w:World,(Instr.typeAssert (.iface 75 (.agg #[.int .i64 a,.int .i64 b])) 20 75 true).run prog w=.ok (.tuple #[.agg #[.int .i64 a,.int .i64 b],.bool true]) w:=λw=>by kernel_rfl
 go_wp2;have g:w.heap.size≠p/\w.heap.size≠q:=⟨by have r:p<w.heap.size:=kaI c;omega,by have r:q<w.heap.size:=kaI d;omega⟩
 have l:(w.alloc (.cells #[.int .i64 a,.int .i64 b] 75)).cell? ⟨p,0,none⟩=some (.int .i64 x):=(kal w _ _ (by rw[c];rfl)).trans c;have m:(w.alloc (.cells #[.int .i64 a,.int .i64 b] 75)).cell? ⟨q,0,none⟩=some (.int .i64 y):=(kal w _ _ (by rw[d];rfl)).trans d;have f:Below w.heap.size w (w.alloc (.cells #[.int .i64 a,.int .i64 b] 75)):=bwA;have z:(w.alloc (.cells #[.int .i64 a,.int .i64 b] 75)).frozen? ⟨p,0,none⟩=false:=(f.frozen (p:=⟨p,0,none⟩) (kaI c)).trans n;have A:(w.alloc (.cells #[.int .i64 a,.int .i64 b] 75)).frozen? ⟨q,0,none⟩=false:=(f.frozen (p:=⟨q,0,none⟩) (kaI d)).trans o;have t:(w.alloc (.cells #[.int .i64 a,.int .i64 b] 75)).cell? ⟨w.heap.size,0,none⟩=some (.int .i64 a):=qaa (qac _ _) 0;have u:(w.alloc (.cells #[.int .i64 a,.int .i64 b] 75)).cell? ⟨w.heap.size,1,none⟩=some (.int .i64 b):=qaa (qac _ _) 1;have j:Hid (Below w.heap.size w (w.alloc (.cells #[.int .i64 a,.int .i64 b] 75))):=f;have D:=g.1;have E:=g.2;have s:q≠p:=λe=>h e.symm;clear c d n o f g;generalize w.alloc (.cells #[.int .i64 a,.int .i64 b] 75)=V at *
 go_region
 have H:((V.setCell ⟨p,0,none⟩ (.int .i64 a)).setCell ⟨q,0,none⟩ (.int .i64 b)).drew.cell? ⟨p,0,none⟩=some (.int .i64 a):=by
  show((V.setCell ⟨p,0,none⟩ (.int .i64 a)).setCell ⟨q,0,none⟩ (.int .i64 b)).cell? ⟨p,0,none⟩=_;rw[kaN (w:=V.setCell ⟨p,0,none⟩ (.int .i64 a)) (kat _ _ _ _ (by simpa using h))];exact kci _ _ _ (by rw[l];rfl)
 have I:((V.setCell ⟨p,0,none⟩ (.int .i64 a)).setCell ⟨q,0,none⟩ (.int .i64 b)).drew.cell? ⟨q,0,none⟩=some (.int .i64 b):=by
  show((V.setCell ⟨p,0,none⟩ (.int .i64 a)).setCell ⟨q,0,none⟩ (.int .i64 b)).cell? ⟨q,0,none⟩=_;refine kci _ _ _ ?_;rw[kaN (w:=V) (kat _ _ _ _ (by simpa using s)),m];rfl
 have J:∀B,B<=p->B<=q->B<=w.heap.size->Below B w ((V.setCell ⟨p,0,none⟩ (.int .i64 a)).setCell ⟨q,0,none⟩ (.int .i64 b)).drew:=λB r M C =>
  (j.out.mono C).trans ⟨rfl,rfl,rfl,by simp[World.setCell,World.drew],λk N=>(kat _ _ _ _ (by simp;omega)).trans (kat V _ _ _ (by simp;omega))⟩
 generalize((V.setCell ⟨p,0,none⟩ (.int .i64 a)).setCell ⟨q,0,none⟩ (.int .i64 b)).drew=X at *;clear l m t u z A j F D E s h;exact⟨rfl,_,rfl,_,kei rfl _ _ _,rfl,rfl,H,I,J⟩
def qy5{α:Type}(val:α->Value)(r:Except (Int×Int) α):Value:=match r with
 |.ok z=>.tuple #[val z,.int .i64 0,.int .i64 0]
 |.error (en,pl)=>.tuple #[.int .i64 0,.int .i64 en,.int .i64 pl]
theorem qmc{α:Type}(val:α->Value)(W:World)(f:Nat)(u:Array Value)(r:Except (Int×Int) α)(G:f=20)(s:Calls prog f u ((W.alloc (.cells #[.int .i64 0] 28)).alloc (.cells #[.int .i64 0] 3)) (qoT ((W.alloc (.cells #[.int .i64 0] 28)).alloc (.cells #[.int .i64 0] 3)) val r)):Calls prog 19 #[.func (.func f) #[] u] W λe B=>e=.returned (qy5 val r)/\Below W.heap.size W B:=by
 subst G;have N:∀(v:Fn) (first t:Array Value) (w:World),(Instr.makeFunc v first t).run prog w=.ok (.func v first t) w:=λ_ _ _ _=>rfl;have p:Below W.heap.size W ((W.alloc (.cells #[.int .i64 0] 28)).alloc (.cells #[.int .i64 0] 3)):=(bwA).alloc (by simp) _;have x:=Boxed.new W 28 (.int .i64 0);have o:=Boxed.new (W.alloc (.cells #[.int .i64 0] 28)) 3 (.int .i64 0);have y:=x.alloc (.cells #[.int .i64 0] 3);rw[kad]at o;have d:Hid (Below W.heap.size W ((W.alloc (.cells #[.int .i64 0] 28)).alloc (.cells #[.int .i64 0] 3))):=p;have g:Hid (Boxed ((W.alloc (.cells #[.int .i64 0] 28)).alloc (.cells #[.int .i64 0] 3)) W.heap.size 28 (.int .i64 0)):=y;have h:Hid (Boxed ((W.alloc (.cells #[.int .i64 0] 28)).alloc (.cells #[.int .i64 0] 3)) (W.heap.size+1) 3 (.int .i64 0)):=o;clear p x o y
 go_enter_defers func19,ntmps19
 go_wp2_with fail
 refine s.mono ?_;clear s;rcases r with⟨D,H⟩|z
 ·rintro e a ⟨b,hF⟩;obtain rfl:=hF;have q1:Boxed a W.heap.size 28 (.int .i64 0):=(b.block _ g.out.lt).trans g.out;have c:Boxed a (W.heap.size+1) 3 (.int .i64 0):=(b.block _ h.out.lt).trans h.out;have i:Below W.heap.size W a:=d.out.trans (b.mono d.out.size);have l:Hid (Boxed a W.heap.size 28 (.int .i64 0)):=q1;have m:Hid (Boxed a (W.heap.size+1) 3 (.int .i64 0)):=c;have j:Hid (Below W.heap.size W a):=i;clear q1 c i b d g h;go_wp2;refine kcI (f:=41) (args:=#[.pointer (some ⟨W.heap.size,0,none⟩),.pointer (some ⟨W.heap.size+1,0,none⟩)]) (by simp) (by simp[go_sem]) ?_;refine(qms W.heap.size (W.heap.size+1) D H 0 0 a l.out.cell m.out.cell l.out.frozen m.out.frozen (by omega)).mono ?_;rintro e K A ⟨rfl,rfl,q,c2,C⟩;have n:Below W.heap.size W A:=j.out.trans (C _ (kaf _) (by omega) j.out.size);simp[Leaves,settle,results,results19,go_sem,q,c2,qy5,n]
 rintro e a ⟨b,rfl⟩;have q1:Boxed a W.heap.size 28 (.int .i64 0):=(b.block _ g.out.lt).trans g.out;have c:Boxed a (W.heap.size+1) 3 (.int .i64 0):=(b.block _ h.out.lt).trans h.out;have i:Below W.heap.size W a:=d.out.trans (b.mono d.out.size);have l:Hid (Boxed a W.heap.size 28 (.int .i64 0)):=q1;have m:Hid (Boxed a (W.heap.size+1) 3 (.int .i64 0)):=c;have j:Hid (Below W.heap.size W a):=i;have q:=q1.cell;have f1:=q1.frozen;have c2:=c.cell;have L:=c.frozen;clear q1 c i b d g h;go_wp2;have E:=grownBy_setCell' a W.heap.size (.int .i64 0);have F:=grownBy_setCell' (a.setCell ⟨W.heap.size,0,none⟩ (.int .i64 0)) (W.heap.size+1) (.int .i64 0);have I:=((l.out.set (.int .i64 0)).kept F (by intro e;injection e with e;omega)).cell;have J:=(Boxed.set (.int .i64 0) (m.out.kept E (by intro e;injection e with e;omega))).cell;have n:Below W.heap.size W ((a.setCell ⟨W.heap.size,0,none⟩ (.int .i64 0)).setCell ⟨W.heap.size+1,0,none⟩ (.int .i64 0)) :=
  j.out.trans ⟨rfl,rfl,rfl,by simp[World.setCell],λk M=>(kat _ _ _ _ (by simp;omega)).trans (kat a _ _ _ (by simp;omega))⟩
 generalize(a.setCell ⟨W.heap.size,0,none⟩ (.int .i64 0)).setCell ⟨W.heap.size+1,0,none⟩ (.int .i64 0)=V at *;refine kcI (f:=41) (args:=#[.pointer (some ⟨W.heap.size,0,none⟩),.pointer (some ⟨W.heap.size+1,0,none⟩)]) (by simp) (by simp[go_sem]) ?_;refine(qlR ⟨W.heap.size,0,none⟩ ⟨W.heap.size+1,0,none⟩ V).mono ?_;rintro e K A ⟨rfl,rfl,rfl⟩;simp[Leaves,settle,results,results19,go_sem,I,J,qy5,n]

def qb3(fm:Int):Nat:=if fm=1 then 32 else 0
theorem qhW(a:Int)(W:World):Calls prog 42 #[.int .i64 a] W λe c=>e=.returned (.int .u8 (qb3 a))/\c=W:=by
 by_cases h:a=1
 ·have d:(a==1)=true:=by simpa using h
  have b:qb3 a=32:=by unfold qb3;rw[kag h]
  rw[b];clear h b;go_enter func42,ntmps42;go_wp2;go_ret;exact⟨rfl,rfl⟩
 have d:(a==1)=false:=by simpa using h
 have b:qb3 a=0:=by unfold qb3;rw[kac h]
 rw[b];clear h b;go_enter func42,ntmps42;go_wp2;go_ret;exact⟨rfl,rfl⟩
theorem qog(W:World)(a:Int)(l:Option Addr)(bs:List UInt8)(s:Nat)(h:qau W l bs):Calls prog 22 #[.int .i64 a,.slice l bs.length s] W λe r=>e=.returned (.bool (bs.all (λc=>c.toNat==qb3 a)))/\r=W:=by
 have p:Hid (qau W l bs):=h;have m:=qhW a W;obtain⟨R,b⟩:∃R,Hid (bs.all (λc=>c.toNat==qb3 a)=R):=⟨_,show _=_ from rfl⟩
 rw[b.out];have w:=h.len;unfold maxLen at w;clear h;go_enter func22,ntmps22
 go_wp2_with(first
  |(go_at_call 42;refine m.mono ?_;clear m;rintro e A ⟨rfl,rfl⟩))
 go_loopg[12] bs.length (λg z wr=>∃k:Nat,z=.int .i64 k/\Hid (k+g=bs.length)/\wr=A/\Hid ((bs.drop k).all (λc=>c.toNat==qb3 a)=R))
 case atStart=>exact⟨0,rfl,by show _=_;omega,rfl,b⟩
 case round =>
  clear b;obtain⟨k,rfl,i,rfl,b⟩:=hrel
  cases gk with
  |zero =>
   have v:¬(k:Int)<bs.length:=by have:=i.out;omega
   have j:Hid (R=true):=by
    show _=_;rw[<-b.out,kca (by have:=i.out;omega)];rfl
   clear b i;go_wp2;go_ret;rw[j.out];exact⟨rfl,rfl⟩
  |succ g =>
   have o:k<bs.length:=by have:=i.out;omega
   have v:(k:Int)<bs.length:=by omega
   obtain⟨B,off,t,C,u⟩:=p.out.at_ k o;subst t;have f:=b.out;rw[ka6 o,List.all_cons]at f;obtain⟨c,n⟩:∃c,bs[k]=c:=⟨_,rfl⟩
   rw[n]at u f;clear b n;cases d:(c.toNat==qb3 a)
   ·rw[d,kdC]at f;have x:((c.toNat:Int) != (qb3 a:Int))=true:=by
     have:=ka1.1 d;simp;omega
    have y:((c.toNat:Int)==(qb3 a:Int))=false:=by
     have:=ka1.1 d;simp;omega
    have j:Hid (R=false):=f.symm;clear f d;go_wp2;go_ret;rw[j.out];exact⟨rfl,rfl⟩
   rw[d,kbB]at f;have x:((c.toNat:Int) != (qb3 a:Int))=false:=by
    have:=kcy.1 d;simp;omega
   have y:((c.toNat:Int)==(qb3 a:Int))=true:=by
    have:=kcy.1 d;simp;omega
   have q:Hid ((bs.drop (k+1)).all (λc=>c.toNat==qb3 a)=R):=f;clear f d;go_wp2;go_roundg g
   case measure=>omega
   case rel=>exact⟨k+1,by go_num,by show _=_;have:=i.out;omega,rfl,q⟩

end
section
open Go.RowKit Go.Lib
structure qvt(W:World)(N:Nat)(b:UInt8)(n bp:Nat)(cur:List Value)(V:World):Prop where
 below:Below W.heap.size W V
 row:V.heap[N]?=some (.cells cur.toArray 5 (0,0))
 lo:W.heap.size<=N
 fit:n<=cur.length
 same:∀j,j<bp->cur[j]?=some (.int .u8 b.toNat)
theorem qyS(W:World)(n:Nat)(d:n<=65536):∃cs:Array Value,(callFunc 108 #[.int .i64 n]).run prog W=.ok (.value (.slice (some ⟨W.heap.size,0,none⟩) n cs.size)) (W.drew.drew.alloc (.cells cs 5))/\n<=cs.size/\cs.size<=maxLen:=by
 obtain⟨cs,c,a,b⟩:=Lib.run_makeNoZero (P:=prog) W #[3] 27 5 underlying27 n (by omega);refine⟨cs,?_,a,b (by unfold maxLen;omega)⟩;rw[run_callFunc_extern func108 (by kernel_rfl) (by kernel_rfl) (by kernel_rfl) (e:=Extern.BytealgMakeNoZero.makeNoZero #[3] #[27]) (by kernel_rfl),c];rfl
theorem qq0(b:UInt8):∀v∈[Value.int .u8 (b.toNat:Int)],v.oneCell'=true:=λv a=>by simp at a;subst a;rfl
theorem qzW(V:World)(N a n:Nat)(h:a<n):(Instr.sliceAt 27 (.slice (some ⟨N,0,none⟩) n n) (some (.int .i64 a)) none none).run prog V=.ok (.slice (some ⟨N,a,none⟩) (n-a) (n-a)) V:=by
 have e:(⟨N,0,none⟩:Addr).add a=⟨N,a,none⟩:=by by_cases h:a=0<;>simp[Addr.add,h]
 have b:¬n=a:=by omega
 have c:(a:Int)<=n:=by omega
 have d:(sizeOf (prog.elem 27)).run prog V=.ok 1 V:=by kernel_rfl
 rw[kdn (P:=prog) V 27 _ _ _ _ (by kernel_rfl)];simp[Instr.slice,kc3 underlying27,Instr.sliceBounds,kdG,c];rw[kac b,e]
theorem qzM(V:World)(N a n:Nat)(h:a<=n):(Instr.sliceAt 27 (.slice (some ⟨N,0,none⟩) n n) none (some (.int .i64 a)) none).run prog V=.ok (.slice (some ⟨N,0,none⟩) a n) V:=by
 have e:(⟨N,0,none⟩:Addr).add 0=⟨N,0,none⟩:=by simp[Addr.add]
 have b:(a:Int)<=n:=by omega
 rw[kdn (P:=prog) V 27 _ _ _ _ (by kernel_rfl)];simp[Instr.slice,kc3 underlying27,Instr.sliceBounds,kdG,b,e]
theorem qfg{ev:Operand->Value}(a:TypeId)(x:Operand)(lo hi:Option Operand)(d:o.op=.slice a x lo hi none){X:Value}{L H:Option Value}(e:ev x=X)(c:lo.map ev=L)(b:hi.map ev=H)(h:(Instr.sliceAt a X L H none).run P W=.ok v W):(execOp ev o).run P W=.ok (.value v) W:=by
 unfold execOp;simp only[d,e,c,b,Option.map_none,kbb,h,kaJ];rfl
theorem qsT(h:qvt W N b n n cur V)(d:n<=65536):qau V (some ⟨N,0,none⟩) (List.replicate n b):=by
 refine⟨λi a=>⟨N,0,rfl,(ltA h.row),?_⟩,by rw[kb5];unfold maxLen;omega⟩;have c:i<n:=by simpa using a
 rw[kaL,qaa h.row i];have:=h.same i c;simpa using this
theorem qvt.copy{V':World}{bp m:Nat}(h:qvt W N b n bp cur V)(c:Below W.heap.size W V')(i:bp+m<=n)(e:V'.heap[N]?=some (.cells (splice cur bp (List.replicate m (.int .u8 b.toNat))).toArray 5 (0,0))):qvt W N b n (bp+m) (splice cur bp (List.replicate m (.int .u8 b.toNat))) V':=by
 have d:bp+(List.replicate m (Value.int .u8 (b.toNat:Int))).length<=cur.length:=by have:=h.fit;simp;omega
 refine⟨c,e,h.lo,by rw[length_splice _ _ _ d];exact h.fit,λj g=>?_⟩;unfold splice;have f:=h.fit;by_cases a:j<bp
 ·rw[kau (by simp;omega),kbF a];exact h.same j a
 rw[kas (by simp;omega),kau (by simp;omega),kcP (by simp;omega)]
theorem qoH(W:World)(M:Nat)(b:UInt8)(n:Nat)(h1:1<=n)(hn:n<=65536)(P:W.cell? ⟨M,0,none⟩=some (.int .u8 b.toNat))(ac:M<W.heap.size):Calls prog 87 #[.slice (some ⟨M,0,none⟩) 1 1,.int .i64 n] W λe z=>∃g,e=.returned (.slice (some ⟨g,0,none⟩) n n)/\qau z (some ⟨g,0,none⟩) (List.replicate n b)/\Below W.heap.size W z:=by
 have A:=λV=>Tryz.bits_Mul 1 n (by omega) (by omega) V;have N:1*n/18446744073709551616=0:=by omega
 have O:1*n%18446744073709551616=n:=by omega
 simp only[N,O]at A;have ag:((n:Int)==0)=false:=by simp;omega
 obtain⟨cs,ae,ab,af⟩:=qyS W n hn;have D:Hid ((W.drew.drew.alloc (.cells cs 5)).heap[W.heap.size]?=some (.cells cs.toList.toArray 5 (0,0))):=by
  show _=_;rw[kdA];exact qac W.drew.drew _
 have t:Hid (Below W.heap.size W (W.drew.drew.alloc (.cells cs 5))):=((kam _ _).drew.drew).alloc (kaf _) _;have E:=qab ((t.out.cell ac).trans P);have J:Hid (∀(j:Nat) (v:Value),[Value.int .u8 b.toNat][j]?=some v->(W.drew.drew.alloc (.cells cs 5)).cell? ((⟨M,0,none⟩:Addr).add j)=some v):=λj v f=>by
  cases j with
  |zero=>simp at f;subst f;exact E.out
  |succ j=>simp at f
 have F:Hid ([Value.int .u8 (b.toNat:Int)].length=Nat.min 1 n):=(Nat.min_eq_left h1).symm;have x:Hid (0+[Value.int .u8 (b.toNat:Int)].length<=cs.toList.length):=by show _<=_;simp;omega
 by_cases h8:n<=8192
 all_goals
  go_enter func87,ntmps87
  go_upto_region 17 with(first
   |(go_at_call 107;refine(A _).mono ?_;rintro e c ⟨rfl,rfl⟩))
  refine wp_region_list ?_;refine kcM rfl λK o=>?_;go_simp;refine o _ _ ?_;refine kcM rfl λK o=>?_;go_simp;refine o _ _ ?_;refine wpList_copy_splice rfl (.tmp 58) (.tmp 59) 27 27 rfl 5 underlying27 (by kernel_rfl) (some ⟨c.heap.size,0,none⟩) (some ⟨M,0,none⟩) n n 1 1 rfl rfl c.heap.size 0 cs.toList 5 D.out [.int .u8 b.toNat] F.out (λ_=>⟨rfl,⟨M,0,none⟩,rfl,J.out⟩) x.out (qq0 b) c.heap.size c t.out (kaf _) ?_;intro w4 y Q;refine kcM rfl λK o=>?_;go_simp;refine o _ _ ?_
  go_wp2_with fail
  have G:Hid (qvt c c.heap.size b n 1 (splice cs.toList 0 [.int .u8 b.toNat]) w4):=⟨Q,y.out,kaf _,by rw[length_splice _ _ _ x.out];simpa using ab,λj B=>by
   obtain rfl:j=0:=by omega
   simp[splice]⟩
  go_loopg[10] n (λg ad wr=>∃(a:Nat) (s:List Value),ad=.int .i64 a/\Hid (1<=a)/\Hid (a<=n)/\Hid (n<=a+g)/\Hid (qvt c c.heap.size b n a s wr))
  case atStart=>exact⟨1,_,rfl,kaf _,h1,by show _<=_;omega,G⟩
  case round =>
   obtain⟨a,s,rfl,u,C,w,l⟩:=hrel;by_cases U:a<n
   ·have hl:(a:Int)<n:=by omega
    first|(have h9:n<=8192:=(by omega);obtain⟨d,q⟩:∃d,Hid (min a n=d):=⟨_,rfl⟩;have Y:(min (a:Int) (n:Int))=d:=(by have:=q.out;omega))|(obtain⟨d,q⟩:∃d,Hid (min a 8192=d):=⟨_,rfl⟩;have Y:(min (a:Int) 8192)=d:=by have:=q.out;omega)
    go_wp2_with fail
    obtain⟨m,k⟩:∃m,Hid (min d (n-a)=m):=⟨_,rfl⟩
    have r:Hid (qvt c c.heap.size b n a s {wr with drawn:=wr.drawn+1}):=⟨l.out.below.drew,l.out.row,l.out.lo,l.out.fit,l.out.same⟩
    refine rgn (S:=λ_=>True) (trivial) (by kernel_rfl) ?_;intro p;generalize({wr with drawn:=wr.drawn+1}:World)=w5 at *;refine tkH 0 67 (.int .i64 a) rfl (by kernel_rfl) (λ_ _ _ h=>h) (λZ i=>by kernel_rfl) p ?_;refine tkH 1 68 (.slice (some ⟨c.heap.size,0,none⟩) n n) rfl (by kernel_rfl) (λ_ _ _ h=>h) (λZ i=>by kernel_rfl) p ?_;refine tkH 2 69 (.int .i64 a) rfl (by kernel_rfl) (λ_ _ _ h=>h) (λZ i=>by kernel_rfl) p ?_;refine tkH 3 70 (.slice (some ⟨c.heap.size,a,none⟩) (n-a) (n-a)) rfl (by kernel_rfl) (λ_ _ _ h=>h) (λZ i=>qfg 27 (.tmp 68) (some (.tmp 69)) none rfl (X:=.slice (some ⟨c.heap.size,0,none⟩) n n) (L:=some (.int .i64 a)) (H:=none) (by kernel_rfl) (by kernel_rfl) (by kernel_rfl) (qzW Z c.heap.size a n U)) p ?_;refine tkH 4 71 (.slice (some ⟨c.heap.size,0,none⟩) n n) rfl (by kernel_rfl) (λ_ _ _ h=>h) (λZ i=>by kernel_rfl) p ?_;refine tkH 5 72 (.int .i64 d) rfl (by kernel_rfl) (λ_ _ _ h=>h) (λZ i=>by kernel_rfl) p ?_;refine tkH 6 73 (.slice (some ⟨c.heap.size,0,none⟩) d n) rfl (by kernel_rfl) (λ_ _ _ h=>h) (λZ i=>qfg 27 (.tmp 71) none (some (.tmp 72)) rfl (X:=.slice (some ⟨c.heap.size,0,none⟩) n n) (L:=none) (H:=some (.int .i64 d)) (by kernel_rfl) (by kernel_rfl) (by kernel_rfl) (qzM Z c.heap.size d n (by have:=q.out;omega))) p ?_;refine rdS 7 rfl (by kernel_rfl) (λK o=>?_);refine step_copy_splice rfl (.tmp 70) (.tmp 73) 27 27 rfl 5 underlying27 (by kernel_rfl) (some ⟨c.heap.size,a,none⟩) (some ⟨c.heap.size,0,none⟩) (n-a) (n-a) d n (by kernel_rfl) (by kernel_rfl) c.heap.size a s 5 r.out.row (List.replicate m (.int .u8 b.toNat)) ?hn (λ_=>⟨rfl,⟨c.heap.size,0,none⟩,rfl,?hs⟩) ?hf ?h1 c.heap.size c r.out.below (kaf _) ?_
    case hn=>rw[kb5];exact k.out.symm
    case hf=>rw[kb5];have:=r.out.fit;have:=k.out;omega
    case h1=>intro v f;rw[(List.mem_replicate.1 f).2];rfl
    case hs =>
     intro j v f;have B:j<m:=by have:=ltL f;simpa using this
     rw[kcP B]at f;have e:(⟨c.heap.size,0,none⟩:Addr).add j=⟨c.heap.size,j,none⟩:=by by_cases h:j=0<;>simp[Addr.add,h]
     rw[e,qaa r.out.row j,<-f];have:=r.out.same j (by have:=k.out;have:=q.out;omega);simpa using this
    intro w6 aa R;rw[kb5];have I:=qab (r.out.copy R (by have:=k.out;omega) aa.out);refine o.out _ _ trivial (λ_=>?_);refine tkH 8 75 (.int .i64 ((a+m:Nat):Int)) rfl (by kernel_rfl) (λ_ _ _ h=>h) (λZ i=>?y8) trivial ?_
    case y8 =>
     go_simp;exact(kcQ _).trans (by have:=k.out;omega)
    refine tkH 9 10 (.int .i64 ((a+m:Nat):Int)) rfl (by kernel_rfl) (λ_ _ _ h=>h) (λZ i=>by kernel_rfl) trivial ?_;refine kcF (by kernel_rfl) ?_ _;go_simp
    go_wp2_with fail
    cases gk with
    |zero=>have:=w.out;omega
    |succ g =>
     go_roundg g
     case measure=>omega
     case rel=>exact⟨a+m,_,by go_num,by show _<=_;have:=u.out;omega,by show _<=_;have:=k.out;omega,by show _<=_;have h1:=k.out;have h2:=q.out;have h3:=u.out;have h4:=w.out;omega,I⟩
   have hl:¬(a:Int)<n:=by omega
   have T:a=n:=by have:=C.out;omega
   subst T
   go_wp2_with fail
   go_ret;exact⟨_,rfl,qsT l.out hn,l.out.below⟩

theorem qoG(W:World)(a:Option Addr)(l c:Nat):Calls prog 87 #[.slice a l c,.int .i64 0] W λe b=>∃g d,e=.returned (.slice (some ⟨g,0,none⟩) 0 d)/\Below W.heap.size W b:=by
 go_enter func87,ntmps87;go_wp2;go_ret;exact⟨_,_,rfl,bwA⟩
theorem qo4(W:World)(M:Nat)(b:UInt8)(n:Nat)(m:n<=65536)(f:W.cell? ⟨M,0,none⟩=some (.int .u8 b.toNat))(l:M<W.heap.size):Calls prog 87 #[.slice (some ⟨M,0,none⟩) 1 1,.int .i64 n] W λe a=>∃g c,e=.returned (.slice (some ⟨g,0,none⟩) n c)/\qau a (some ⟨g,0,none⟩) (List.replicate n b)/\Below W.heap.size W a:=by
 by_cases h:n=0
 ·subst h;refine(qoG W _ 1 1).mono ?_;rintro e a ⟨g,c,rfl,d⟩;exact⟨g,c,rfl,⟨λi k=>by simp at k,by simp⟩,d⟩
 refine(qoH W M b n (by omega) m f l).mono ?_;rintro e a ⟨g,rfl,j,d⟩;exact⟨g,n,rfl,j,d⟩
def qfb(fm:Int)(bs:List UInt8):List Int->Option (List UInt8)
 |[]=>none
 |x::B=>if(bs.length:Int)<=x then some (bs++List.replicate (x.toNat-bs.length) (UInt8.ofNat (qb3 fm)))else qfb fm bs B
def qfX(fm:Int)(bs:List UInt8)(B:List Int):Option (List UInt8):=if B.length=0 then some bs else qfb fm bs B
theorem qqo(a:Int):(UInt8.ofNat (qb3 a)).toNat=qb3 a:=by
 unfold qb3;split<;>rfl
theorem qw0{g:Nat}(h:qau W (some ⟨g,0,none⟩) (List.replicate n b)):∀(j:Nat) (u:Value),((List.replicate n b).map qax)[j]?=some u->W.cell? ((⟨g,0,none⟩:Addr).add j)=some u:=by
 intro j u f;have d:j<(List.replicate n b).length:=by have:=ltL f;simpa using this
 obtain⟨i,off,a,_,c⟩:=h.at_ j d;injection a with a;injection a with a e2 _;subst a;subst e2;have e:(⟨g,0,none⟩:Addr).add j=⟨g,j,none⟩:=by by_cases h:j=0<;>simp[Addr.add,h]
 rw[e];rw[kaL]at c;rw[c,<-f,kbx,kab d];rfl
theorem qyC(n:Nat)(b:UInt8):((List.replicate n b).map qax).length=n*1:=by simp
theorem qxO(n:Nat)(b:UInt8):∀u∈(List.replicate n b).map qax,u.oneCell'=true:=λu a=>by
 obtain⟨c,_,rfl⟩:=kc7.1 a;rfl
theorem qws{W':World}{base:Nat}{v':Value}{bs:List UInt8}(h:Own W base v bs)(c:W'.ownsRow base 5 1 v' (bs.length+n) (bs.map qax++(List.replicate n b).map qax))(a:W.grownBy W' v.ownBlock):Own W' base v' (bs++List.replicate n b)/\Below base W W':=by
 refine⟨⟨by rw[kaa,kaW,kb5];exact c,kaj h.2.1 a.size,?_⟩,qa4 (kam base W) h.1 a h.2.1⟩;rcases c.2 with⟨e,_⟩|⟨g,d,f,e,_⟩
 ·exact⟨none,0,0,e⟩
 exact⟨_,_,_,e⟩
def qxU(W:World)(base:Nat)(r:Option (List UInt8))(e:Ending)(W':World):Prop :=
 (∃v',e=.returned (.tuple #[v',.bool r.isSome])/\(r=none->v'=.slice none 0 0)/\∀l,r=some l->Own W' base v' l)/\Below base W W'
theorem qtD(W:World)(u:Nat)(c:Int)(v:Value)(bs:List UInt8)(ba:Option Addr)(Z:Nat)(B:List Int)(h:Own W u v bs)(J:qc9 W ba B)(aj:B.length<=8)(K:∀i (h:i<B.length),B[i]<=65536)(hl:bs.length<=999999999):Calls prog 62 #[.int .i64 c,v,.slice ba B.length Z] W (qxU W u (qfX c bs B)):=by
 obtain⟨i0,hi,ad,ae,af⟩:=kaF Tryz.infoU8;obtain⟨ia,j,rfl,aa⟩:=qcw h;have E:=qab h;have P:=qab h.2.1;have R:=qab J;have Y:=qab K;have w:=λV=>qhW c V;obtain⟨a,D⟩:∃a:UInt8,Hid (UInt8.ofNat (qb3 c)=a):=⟨_,rfl⟩
 have Q:Hid ((qb3 c:Int)=(a.toNat:Int)):=by show _=_;rw[<-D.out,qqo]
 rw[Q.out]at w;clear h J K aa;by_cases A:B.length=0
 ·have f:Hid (qfX c bs B=some bs):=by show _=_;unfold qfX;rw[kag A]
  rw[A];go_enter func62,ntmps62;go_wp2;refine kaw (kbY results62 _ _ _) rfl ?_;rw[f.out];exact⟨⟨_,rfl,λh=>by simp at h,λl h=>by have y:=kaE h;rw[<-y];exact E.out⟩,kam _ _⟩
 obtain⟨r,d⟩:∃r,Hid (qfb c bs B=r):=⟨_,rfl⟩
 have f:Hid (qfX c bs B=r):=by show _=_;unfold qfX;rw[kac A];exact d.out
 rw[f.out];have ah:((B.length:Int)==0)=false:=by rw[ka1];omega
 go_enter func62,ntmps62
 go_wp2_with fail
 go_loopg[17] B.length (λg ag wr=>∃k:Nat,ag=.int .i64 k/\Hid (k+g=B.length)/\W=wr/\Hid (qfb c bs (B.drop k)=r))
 case atStart=>exact⟨0,rfl,by show _=_;omega,rfl,d⟩
 case round =>
  clear d f;obtain⟨k,rfl,m,rfl,d⟩:=hrel
  cases gk with
  |zero =>
   have ab:¬(k:Int)<B.length:=by have:=m.out;omega
   have b:r=none:=by
    have:=d.out;rw[kca (by have:=m.out;omega)]at this;exact this.symm
   subst b;go_wp2;refine kaw (kbY results62 _ _ _) rfl ?_;exact⟨⟨_,rfl,λ_=>rfl,λl h=>by cases h⟩,kam _ _⟩
  |succ g =>
   have o:k<B.length:=by have:=m.out;omega
   have ab:(k:Int)<B.length:=by omega
   obtain⟨b0,off,rfl,ai,L⟩:=R.out.at_ k o;have hc:=L k o;have hx:=Y.out k o;have b:=d.out;rw[ka6 o,qfb]at b;clear L;generalize B[k]=x at *;by_cases C:(bs.length:Int)<=x
   ·rw[kag C,D.out]at b;obtain⟨n,hn⟩:∃n:Nat,x=(bs.length:Int)+n:=⟨(x-bs.length).toNat,by omega⟩
    subst hn;have I:((bs.length:Int)+n).toNat-bs.length=n:=by omega
    rw[I]at b;have X:=qab b.symm;clear b I;have p:Hid (Below W.heap.size W (W.alloc (.cells #[.int .u8 (a.toNat:Int)] 5))):=bwA;have H:=qo4 (W.alloc (.cells #[.int .u8 (a.toNat:Int)] 5)) W.heap.size a n (by omega) (qaa (qac W _) 0) (by simp);have G:Calls prog 87 #[.slice (some ⟨W.heap.size,0,none⟩) 1 1,.int .i64 ((bs.length:Int)+n-bs.length)] (W.alloc (.cells #[.int .u8 (a.toNat:Int)] 5)) λe t=>∃g j,e=.returned (.slice (some ⟨g,0,none⟩) n j)/\Hid (qau t (some ⟨g,0,none⟩) (List.replicate n a))/\Hid (Below W.heap.size W t):=by
     rw[show(bs.length:Int)+n-bs.length=n by omega];refine H.mono ?_;rintro e t ⟨g,j,rfl,h1,h2⟩;exact⟨g,j,rfl,h1,p.out.trans (h2.mono p.out.size)⟩
    clear H p;have al:bs.length+n<=65536:=by omega
    go_wp2_with(first
     |(go_at_call 42;refine(w _).mono ?_;clear w;rintro e w2 ⟨rfl,rfl⟩)
     |(go_at_call 87;refine G.mono ?_;clear G;rintro e w3 ⟨g3,z,rfl,O,F⟩;have s:=qab (qhl E.out F.out);have U:=qab (qw0 O.out);have S:=qab (qyC n a))
     |(at_builtin;refine kao _ rfl _ _ 27 rfl u 5 i0 (.int .u8 0) 1 1 underlying27 hi ad ae af rfl (by decide) _ _ _ rfl s.out.1 ⟨g3,0,none⟩ n z ((List.replicate n a).map qax) rfl S.out U.out (qxO n a) (by unfold maxLen;omega) (by omega) s.out.2.1 ?_;intro v' w5 N M ac;clear ac;have q:=qab (qws s.out N M);clear N M;obtain⟨a5,n5,c5,rfl⟩:=q.out.1.2.2))
    refine kaw (kbY results62 _ _ _) rfl ?_;rw[X.out];exact⟨⟨_,rfl,λh=>by simp at h,λl h=>by have y:=kaE h;rw[<-y];exact q.out.1⟩,(F.out.mono P.out).trans q.out.2⟩
   rw[kac C]at b;have T:=qab b;have ak:=C;clear b d
   go_wp2_with fail
   go_roundg g
   case measure=>omega
   case rel=>exact⟨k+1,by go_num,by show _=_;have:=m.out;omega,rfl,T⟩

structure Gt where
 inF:Int
 out:Int
 depth:Int
 bytes:Nat
 rc:Array Value
 bk:Value
def qaz(g:Gt)(fed:Value)(cl:Bool):Array Value:=#[.int .i64 g.inF,.int .i64 g.out,.int .i64 g.depth,.int .i64 g.bytes]++g.rc++#[g.bk,fed,.bool cl]
theorem qfq{g:Gt}(b:Value)(a:Bool)(j:Nat)(h:j<4):(qaz g b a)[j]?=#[Value.int .i64 g.inF,.int .i64 g.out,.int .i64 g.depth,.int .i64 g.bytes][j]?:=by
 unfold qaz;rw[Array.append_assoc,kbN (by simpa using h)]
theorem qcF{g:Gt}(c:g.rc.size=40)(b:Value)(a:Bool)(j:Nat):(qaz g b a)[44+j]?=#[g.bk,b,.bool a][j]?:=by
 unfold qaz;rw[kb6 (by simp[c])];simp[c]
theorem qsZ{g:Gt}(d:g.rc.size=40)(c b:Value)(a:Bool):(qaz g c a).setIfInBounds 45 b=qaz g b a:=by
 unfold qaz;apply kdj;have e:(#[Value.int .i64 g.inF,.int .i64 g.out,.int .i64 g.depth,.int .i64 g.bytes]++g.rc).toList.length=44:=by simp[d]
 simp only[kbM];rw[kcZ,kcx _ _ (by omega),e];simp
theorem qrP(W:World)(f:Nat)(v:Value)(d:List UInt8)(k:Option Addr)(c:Nat)(b:List UInt8)(h:Own W f v d)(r:qau W k b)(E:k=none->c=0)(L:d.length+b.length<=999999999):∃l m,(Builtin.append_ #[27,27] 27 #[v,.slice k b.length c]).run prog W=.ok l m/\Own m f l (d++b)/\W.grownBy m v.ownBlock:=by
 obtain⟨y,s,F,G,H⟩:=kaF Tryz.infoU8
 cases k with
 |none =>
  have C:b=[]:=by
   cases b with
   |nil=>rfl
   |cons a t =>
    obtain⟨g,off,e,_⟩:=r.at_ 0 (by simp);cases e
  subst C;rw[E rfl];have n:=kd3 (P:=prog) (w:=W) f 27 27 5 y 1 underlying27 s v d.length _ h.1;refine⟨v,W,n,by simpa using h,⟨rfl,rfl,rfl,kaf _,λ_ _ _=>rfl⟩⟩
 |some o =>
  have D:∀j u,(b.map qax)[j]?=some u->W.cell? (o.add j)=some u:=by
   intro j u i;have x:j<b.length:=by have:=ltL i;simpa using this
   obtain⟨g,off,z,_,B⟩:=r.at_ j x;have A:=kaE z;subst A;have e:(⟨g,off,none⟩:Addr).add j=⟨g,off+j,none⟩:=by by_cases h:j=0<;>simp[Addr.add,h]
   rw[e,B,<-i,kbx,kab x];rfl
  obtain⟨l,I,n,p,q,_⟩:=kcK (P:=prog) W f 27 27 5 y (.int .u8 0) 1 1 underlying27 s F G H rfl (by decide) v d.length _ h.1 o b.length c (b.map qax) (by simp) D (λu i=>by obtain⟨c,_,rfl⟩:=kc7.1 i;rfl) (by unfold maxLen;omega) (by omega) h.2.1;refine⟨l,I,n,⟨by rw[kaa,kaW];exact p,kaj h.2.1 q.size,?_⟩,q⟩;rcases p.2 with⟨e,_⟩|⟨g,J,K,e,_⟩
  ·exact⟨none,0,0,e⟩
  exact⟨_,_,_,e⟩
theorem qyF(V:World)(c:Option Addr)(n m b:Nat)(h:m<=b):(Instr.sliceAt 27 (.slice c n b) none (some (.int .i64 m)) none).run prog V=.ok (.slice c m b) V:=by
 have e:∀a:Addr,a.add 0=a:=λa=>by simp[Addr.add]
 have d:(m:Int)<=b:=by omega
 rw[kdn (P:=prog) V 27 _ _ _ _ (by kernel_rfl)];cases c<;>simp[Instr.slice,kc3 underlying27,Instr.sliceBounds,kdG,d,e]
theorem q04{c:Prop}[Decidable c]{A B:Prop}(h:c)(a:A):if c then A else B:=by rw[kag h];exact a
theorem qjg{w w':World}{a:Act}{K:Act->World->Prop}{Q:Exit->Act->World->Prop}(s x:Operand)(t:TypeId)(c:o.op=.call {callee:=.builtin .append,args:=#[s,x],argTypes:=#[t,t]})(v u b:Value)(e:a.eval s=v)(f:a.eval x=u)(d:(Builtin.append_ #[t,t] o.type #[v,u]).run P w=.ok b w')(h:K (a.put o.dst b) w'):o.wp P a w K Q:=by
 unfold Oper.wp execOp;simp only[c,resolve,invoke,builtin,kbb,kby,kaJ,kco,kaH,kb8,e,f,d];exact h
def qya(W:World)(L base:Nat)(g:Gt)(fed:Value)(l:List UInt8)(e:Ending)(W':World):Prop :=
 ∃fa fn fc,e=.returned (.tuple #[])/\Own W' base (.slice fa fn fc) l/\W'.heap[L]?=some (.cells (qaz g (.slice fa fn fc) false) 96)/\(W'.os=W.os/\W'.tape=W.tape/\W'.output=W.output)/\W.heap.size<=W'.heap.size/\∀k,k<W.heap.size->k≠L->some k≠fed.ownBlock->W'.heap[k]?=W.heap[k]?
theorem qsA(W:World)(L r:Nat)(g:Gt)(U:g.rc.size=40)(E:Value)(c:List UInt8)(f:Option Addr)(n:Nat)(bs:List UInt8)(F:W.heap[L]?=some (.cells (qaz g E false) 96))(o:Own W r E c)(hL:L<r)(Q:qau W f bs)(ak:f=none->n=0)(au:bs.length<=n)(ar:g.bytes<=4096)(ao:c.length<=g.bytes+1):Calls prog 38 #[.pointer (some ⟨L,0,none⟩),.slice f bs.length n] W (qya W L r g E (c++bs.take (g.bytes+1-c.length))):=by
 obtain⟨j,l,rfl,av⟩:=qcw o;have HG:=qab F;have HO:=qab o;have c3:W.cell? ⟨L,3,none⟩=some (.int .i64 g.bytes):=(qaa F 3).trans (qfq _ _ 3 (by decide));have ad:W.cell? ⟨L,45,none⟩=some (.slice j c.length l):=(qaa F 45).trans (qcF U _ _ 1);obtain⟨d,B⟩:∃d,Hid (c.length+d=g.bytes+1):=⟨g.bytes+1-c.length,by show _=_;omega⟩
 have al:g.bytes+1-c.length=d:=by have:=B.out;omega
 rw[al];obtain⟨m,u⟩:∃m,Hid (min bs.length d=m):=⟨_,rfl⟩
 have J:Hid ((bs.take d).length=m):=by show _=_;rw[kbc];have:=u.out;omega
 have aq:=Q.len;have aa:Hid (qau W f (bs.take d)):=⟨λi hi=>by
  have ai:i<bs.length:=by rw[kbc]at hi;omega
  obtain⟨g0,off,v,w,D⟩:=Q.at_ i ai;exact⟨g0,off,v,w,by rw[kec];exact D⟩,by rw[kbc];omega⟩
 have G:=qab hL;have A:=qab U;have ab:=qab ak;have aw:m<=bs.length:=by have:=u.out;omega
 have ay:d<=4097:=by have:=B.out;omega
 have ap:c.length<=4097:=by omega
 have b:(λZ:World=>Z.cell? ⟨L,3,none⟩=some (.int .i64 g.bytes)/\Z.cell? ⟨L,45,none⟩=some (.slice j c.length l)) {W with drawn:=W.drawn+1}:=⟨c3,ad⟩
 go_enter func38,ntmps38
 go_wp2_with fail
 refine kaM (S:=λZ=>Z.cell? ⟨L,3,none⟩=some (.int .i64 g.bytes)/\Z.cell? ⟨L,45,none⟩=some (.slice j c.length l)) (by kernel_rfl) ?_;refine tkH 0 5 (.pointer (some ⟨L,0,none⟩)) rfl (by kernel_rfl) (λ_ _ _ h=>h) (λZ a=>by kernel_rfl) b ?_;refine tkH 1 6 (.pointer (some ⟨L,0,none⟩)) rfl (by kernel_rfl) (λ_ _ _ h=>h) (λZ a=>by kernel_rfl) b ?_;refine tkH 2 7 (.pointer (some ⟨L,2,none⟩)) rfl (by kernel_rfl) (λ_ _ _ h=>h) (λZ a=>by kernel_rfl) b ?_;refine tkH 3 8 (.pointer (some ⟨L,3,none⟩)) rfl (by kernel_rfl) (λ_ _ _ h=>h) (λZ a=>by kernel_rfl) b ?_;refine tkH 4 9 (.int .i64 g.bytes) rfl (by kernel_rfl) (λ_ _ _ h=>h) (λZ a=>?y4) b ?_
 case y4=>(have z1:=a.1;go_simp)
 refine tkH 5 10 (.int .i64 ((g.bytes:Int)+1)) rfl (by kernel_rfl) (λ_ _ _ h=>h) (λZ a=>?y5) b ?_
 case y5=>(go_simp;exact(kcQ _).trans (by omega))
 refine tkH 6 11 (.pointer (some ⟨L,0,none⟩)) rfl (by kernel_rfl) (λ_ _ _ h=>h) (λZ a=>by kernel_rfl) b ?_;refine tkH 7 12 (.pointer (some ⟨L,0,none⟩)) rfl (by kernel_rfl) (λ_ _ _ h=>h) (λZ a=>by kernel_rfl) b ?_;refine tkH 8 13 (.pointer (some ⟨L,45,none⟩)) rfl (by kernel_rfl) (λ_ _ _ h=>h) (λZ a=>by kernel_rfl) b ?_;refine tkH 9 14 (.slice j c.length l) rfl (by kernel_rfl) (λ_ _ _ h=>h) (λZ a=>?y9) b ?_
 case y9=>(have z1:=a.2;go_simp)
 refine tkH 10 15 (.int .i64 c.length) rfl (by kernel_rfl) (λ_ _ _ h=>h) (λZ a=>by kernel_rfl) b ?_;refine tkH 11 16 (.int .i64 d) rfl (by kernel_rfl) (λ_ _ _ h=>h) (λZ a=>?y11) b ?_
 case y11=>(go_simp;exact(kcQ _).trans (by have:=B.out;omega))
 refine tkH 12 4 (.int .i64 d) rfl (by kernel_rfl) (λ_ _ _ h=>h) (λZ a=>by kernel_rfl) b ?_;refine kcF (by kernel_rfl) ?_ _;go_simp
 go_wp2_with fail
 refine kaM (S:=λ_=>True) (by kernel_rfl) ?_;have z:Hid (({World.drew W with drawn:=(World.drew W).drawn+1}:World).heap[L]?=some (.cells (qaz g (.slice j c.length l) false) 96)):=HG;have I:Hid (Own {World.drew W with drawn:=(World.drew W).drawn+1} r (.slice j c.length l) c):=HO;have Y:Hid (qau {World.drew W with drawn:=(World.drew W).drawn+1} f (bs.take d)):=aa.out.below (kam _ _).drew.drew;have q:Hid (Below W.heap.size W {World.drew W with drawn:=(World.drew W).drawn+1}):=(kam _ _).drew.drew;generalize({World.drew W with drawn:=(World.drew W).drawn+1}:World)=W2 at *;have b:(λ_:World=>True) W2:=trivial;have a0:W2.cell? ⟨L,45,none⟩=some (.slice j c.length l):=(qaa z.out 45).trans (qcF A.out _ _ 1);obtain⟨v',C,T,P,ah⟩:=qrP W2 r (.slice j c.length l) c f n (bs.take d) I.out Y.out ab.out (by rw[J.out];have:=u.out;omega);rw[J.out]at T;have ac:=qab P;have p:=qab ah;obtain⟨M,V,N,rfl⟩:=P.2.2;have ag:some L≠(Value.slice j c.length l).ownBlock:=λe=>by have x:=qbH I.out.1 e.symm;have y:=G.out;omega
 have t:=qab ((p.out.block L (ltA z.out) ag).trans z.out);have az:C.cell? ⟨L,45,none⟩=some (.slice j c.length l):=(qaa t.out 45).trans (qcF A.out _ _ 1);have am:=kaK C L 45 _ _ t.out;refine tkH 0 17 (.pointer (some ⟨L,0,none⟩)) rfl (by kernel_rfl) (λ_ _ _ h=>h) (λZ a=>by kernel_rfl) b ?_;refine tkH 1 18 (.pointer (some ⟨L,0,none⟩)) rfl (by kernel_rfl) (λ_ _ _ h=>h) (λZ a=>by kernel_rfl) b ?_;refine tkH 2 19 (.pointer (some ⟨L,0,none⟩)) rfl (by kernel_rfl) (λ_ _ _ h=>h) (λZ a=>by kernel_rfl) b ?_;refine tkH 3 20 (.pointer (some ⟨L,45,none⟩)) rfl (by kernel_rfl) (λ_ _ _ h=>h) (λZ a=>by kernel_rfl) b ?_;refine tkH 5 22 (.slice f bs.length n) rfl (by kernel_rfl) (λ_ _ _ h=>h) (λZ a=>by kernel_rfl) b ?_;refine tkH 6 23 (.slice f bs.length n) rfl (by kernel_rfl) (λ_ _ _ h=>h) (λZ a=>by kernel_rfl) b ?_;refine tkH 7 24 (.int .i64 bs.length) rfl (by kernel_rfl) (λ_ _ _ h=>h) (λZ a=>by kernel_rfl) b ?_;refine tkH 8 25 (.int .i64 d) rfl (by kernel_rfl) (λ_ _ _ h=>h) (λZ a=>by kernel_rfl) b ?_;refine tkH 9 26 (.int .i64 m) rfl (by kernel_rfl) (λ_ _ _ h=>h) (λZ a=>?y9) b ?_
 case y9 =>
  have ax:min (bs.length:Int) (d:Int)=m:=by have:=u.out;omega
  go_simp
 refine tkH 10 27 (.slice f m n) rfl (by kernel_rfl) (λ_ _ _ h=>h) (λZ a=>qfg 27 (.tmp 22) none (some (.tmp 26)) rfl (X:=.slice f bs.length n) (L:=none) (H:=some (.int .i64 m)) (by kernel_rfl) (by kernel_rfl) (by kernel_rfl) (qyF Z f bs.length m n (by omega))) b ?_;refine rdS 4 rfl (by kernel_rfl) (λK s=>?_);go_simp;refine s.out _ _ trivial (λ_=>?_);refine rdS 11 rfl (by kernel_rfl) (λK s=>?_);refine q04 (by kernel_rfl) ?_;refine qjg (.tmp 21) (.tmp 27) 27 rfl (.slice j c.length l) (.slice f m n) _ (by kernel_rfl) (by kernel_rfl) T ?_;refine s.out _ _ trivial (λ_=>?_);refine tkH 12 29 (.pointer (some ⟨L,0,none⟩)) rfl (by kernel_rfl) (λ_ _ _ h=>h) (λZ a=>by kernel_rfl) trivial ?_;refine tkH 13 30 (.pointer (some ⟨L,45,none⟩)) rfl (by kernel_rfl) (λ_ _ _ h=>h) (λZ a=>by kernel_rfl) trivial ?_;refine rdS 14 rfl (by kernel_rfl) (λK s=>?_);go_simp;refine s.out _ _ trivial (λ_=>?_);refine kcF (by kernel_rfl) ?_ _;go_simp
 go_wp2_with fail
 go_end0;have an:=ltA t.out;refine⟨M,V,N,rfl,?_,?_,⟨p.out.os.trans q.out.os,p.out.tape.trans q.out.tape,p.out.output.trans q.out.output⟩,?_,λk R x y=>?_⟩
 ·have o:=ac.out;have aj:∀g,(Value.slice M V N).ownBlock=some g->g≠L:=λg e w=>by have x:=qbH o.1 e;have y:=G.out;omega
  refine⟨⟨o.1.1,?_⟩,by have:=o.2.1;simpa[World.setCell]using this,o.2.2⟩;rcases o.1.2 with h|⟨O,ae,af,v,w,D,e4⟩
  ·exact .inl h
  exact .inr ⟨O,ae,af,v,w,(kat _ _ _ _ (by simpa using aj O (by rw[v];rfl))).trans D,e4⟩
 ·rw[kaO C _ _ _ _ _ t.out,qsZ A.out]
 ·have x:=p.out.size;have y:=q.out.size;simp[World.setCell];omega
 exact(kat _ _ _ _ (by simpa using x)).trans ((p.out.block k (kai R q.out.size) y).trans (q.out.block k R))

theorem qzs{g:Gt}{L:Nat}{fed:Value}{cl:Bool}(b:V.heap[L]?=some (.cells (qaz g fed cl) 96)):∀(j:Nat) (u:Value),#[Value.int .i64 g.depth,.int .i64 g.bytes][j]?=some u->V.cell? ⟨L,2+j,none⟩=some u:=by
 intro j u a;have c:j<2:=ltA a;refine(qaa b (2+j)).trans ((qfq fed cl (2+j) (by omega)).trans ?_)
 match j,c,a with
 |0,_,a=>exact a
 |1,_,a=>exact a
theorem qpN(k:Nat)(V:World)(p L:Nat)(g:Gt)(J:g.rc.size=40)(f:Option Addr)(l i:Nat)(C:Bool)(r:Except (Int×Int) (DataW Unit))(H:V.heap[p]?=some (.cells #[.pointer (some ⟨L,0,none⟩)] 55))(n:V.heap[L]?=some (.cells (qaz g (.slice f l i) C) 96))(B:∀U,Below V.heap.size V U->Calls prog 13 #[.int .i64 g.inF,.agg #[.int .i64 g.depth,.int .i64 g.bytes],.slice f l i] U (qey k U r)):Calls prog 60 #[.pointer (some ⟨p,0,none⟩)] V (qey k V r):=by
 have O:=qab n;have a:(λZ:World=>Z.cell? ⟨p,0,none⟩=some (.pointer (some ⟨L,0,none⟩))/\Z.cell? ⟨L,0,none⟩=some (.int .i64 g.inF)/\(∀(j:Nat) (u:Value),#[Value.int .i64 g.depth,.int .i64 g.bytes][j]?=some u->Z.cell? ⟨L,2+j,none⟩=some u)/\Z.cell? ⟨L,45,none⟩=some (.slice f l i)) {V with drawn:=V.drawn+1}:=⟨qaa H 0,(qaa n 0).trans (qfq _ _ 0 (by decide)),qzs n,(qaa n 45).trans (qcF J _ _ 1)⟩
 have x:=qab B;have G:(prog.info? 52).map (·.size)=some (#[Value.int .i64 g.depth,.int .i64 g.bytes]).size:=by kernel_rfl
 go_enter func60,ntmps60
 go_wp2_with fail
 refine kaM (S:=λZ=>Z.cell? ⟨p,0,none⟩=some (.pointer (some ⟨L,0,none⟩))/\Z.cell? ⟨L,0,none⟩=some (.int .i64 g.inF)/\(∀(j:Nat) (u:Value),#[Value.int .i64 g.depth,.int .i64 g.bytes][j]?=some u->Z.cell? ⟨L,2+j,none⟩=some u)/\Z.cell? ⟨L,45,none⟩=some (.slice f l i)) (by kernel_rfl) ?_;have c:Hid (Below V.heap.size V {V with drawn:=V.drawn+1}):=(kam _ _).drew;generalize({V with drawn:=V.drawn+1}:World)=V1 at *;refine tkH 0 2 (.pointer (some ⟨L,0,none⟩)) rfl (by kernel_rfl) (λ_ _ _ h=>h) (λZ b=>?y0) a ?_
 case y0=>(have o:=b.1;go_simp)
 refine tkH 1 3 (.pointer (some ⟨L,0,none⟩)) rfl (by kernel_rfl) (λ_ _ _ h=>h) (λZ b=>by kernel_rfl) a ?_;refine tkH 2 4 (.pointer (some ⟨L,0,none⟩)) rfl (by kernel_rfl) (λ_ _ _ h=>h) (λZ b=>by kernel_rfl) a ?_;refine tkH 3 5 (.int .i64 g.inF) rfl (by kernel_rfl) (λ_ _ _ h=>h) (λZ b=>?y3) a ?_
 case y3=>(have o:=b.2.1;go_simp)
 refine tkH 4 6 (.pointer (some ⟨L,0,none⟩)) rfl (by kernel_rfl) (λ_ _ _ h=>h) (λZ b=>?y4) a ?_
 case y4=>(have o:=b.1;go_simp)
 refine tkH 5 7 (.pointer (some ⟨L,0,none⟩)) rfl (by kernel_rfl) (λ_ _ _ h=>h) (λZ b=>by kernel_rfl) a ?_;refine tkH 6 8 (.pointer (some ⟨L,2,none⟩)) rfl (by kernel_rfl) (λ_ _ _ h=>h) (λZ b=>by kernel_rfl) a ?_;refine tkH 7 9 (.agg #[.int .i64 g.depth,.int .i64 g.bytes]) rfl (by kernel_rfl) (λ_ _ _ h=>h) (λZ b=>?y7) a ?_
 case y7=>exact qxG 52 (.tmp 8) rfl L 2 rfl _ _ b.2.2.1 underlying52 rfl G
 refine tkH 8 10 (.pointer (some ⟨L,0,none⟩)) rfl (by kernel_rfl) (λ_ _ _ h=>h) (λZ b=>?y8) a ?_
 case y8=>(have o:=b.1;go_simp)
 refine tkH 9 11 (.pointer (some ⟨L,0,none⟩)) rfl (by kernel_rfl) (λ_ _ _ h=>h) (λZ b=>by kernel_rfl) a ?_;refine tkH 10 12 (.pointer (some ⟨L,45,none⟩)) rfl (by kernel_rfl) (λ_ _ _ h=>h) (λZ b=>by kernel_rfl) a ?_;refine tkH 11 13 (.slice f l i) rfl (by kernel_rfl) (λ_ _ _ h=>h) (λZ b=>?y11) a ?_
 case y11=>(have o:=b.2.2.2;go_simp)
 refine rdS 12 rfl (by kernel_rfl) (λK E=>?_);go_simp;refine(x.out V1 c.out).mono ?_;rintro e s ⟨m,hF⟩;rcases r with⟨D,N⟩|d
 ·obtain rfl:=(show qan D N e from hF)
  exact⟨rfl,c.out.trans (m.mono c.out.size),rfl⟩
 obtain⟨t,y,rfl,F⟩:=hF;simp only[];have I:p<V1.heap.size:=kaI a.1;have q:L<V1.heap.size:=kaI a.2.1;have v:(λZ:World=>Z.cell? ⟨p,0,none⟩=some (.pointer (some ⟨L,0,none⟩))/\Z.cell? ⟨L,0,none⟩=some (.int .i64 g.inF)/\(∀(j:Nat) (u:Value),#[Value.int .i64 g.depth,.int .i64 g.bytes][j]?=some u->Z.cell? ⟨L,2+j,none⟩=some u)/\Z.cell? ⟨L,45,none⟩=some (.slice f l i)) s:=⟨(m.cell (p:=⟨p,0,none⟩) I).trans a.1,(m.cell (p:=⟨L,0,none⟩) q).trans a.2.1,λj u M=>(m.cell (p:=⟨L,2+j,none⟩) q).trans (a.2.2.1 j u M),(m.cell (p:=⟨L,45,none⟩) q).trans a.2.2.2⟩
 have z:=qab (c.out.trans (m.mono c.out.size));have A:Hid (qah k s (λj=>V.heap.size<=j/\j<s.heap.size) (.iface t y) d):=F.same (λj w=>⟨kaj c.out.size w.1,w.2⟩) (λ_ _=>rfl);refine E.out _ _ v (λ_=>?_);refine tkH 13 1 (.iface t y) rfl (by kernel_rfl) (λ_ _ _ h=>h) (λZ b=>by kernel_rfl) v ?_;refine kcF (by kernel_rfl) ?_ _;go_simp
 go_wp2_with fail
 go_ret;exact⟨z.out,t,y,rfl,A.out⟩
theorem qni(k:Nat)(W:World)(L:Nat)(g:Gt)(C:g.rc.size=40)(h:Option Addr)(b i:Nat)(p:Bool)(r:Except (Int×Int) (DataW Unit))(q:W.heap[L]?=some (.cells (qaz g (.slice h b i) p) 96))(x:∀U,Below W.heap.size W U->Calls prog 13 #[.int .i64 g.inF,.agg #[.int .i64 g.depth,.int .i64 g.bytes],.slice h b i] U (qey k U r)):Calls prog 39 #[.pointer (some ⟨L,0,none⟩)] W (qtu k W r):=by
 have a:Hid (Below W.heap.size W (W.alloc (.cells #[.pointer (some ⟨L,0,none⟩)] 55))):=bwA;have E:∀(b:Fn) (first o:Array Value) (w:World),(Instr.makeFunc b first o).run prog w=.ok (.func b first o) w:=λ_ _ _ _=>rfl;have v:=qjT k (W.alloc (.cells #[.pointer (some ⟨L,0,none⟩)] 55)) #[.pointer (some ⟨W.heap.size,0,none⟩)] r (by
  have f:Below (W.heap.size+1) (W.alloc (.cells #[.pointer (some ⟨L,0,none⟩)] 55)) (((W.alloc (.cells #[.pointer (some ⟨L,0,none⟩)] 55)).alloc (.cells #[.int .i64 0] 28)).alloc (.cells #[.int .i64 0] 3)):=((kam _ _).alloc (by simp) _).alloc (by simp) _;have z:=ltA q;refine qpN k _ W.heap.size L g C h b i p r ((f.block _ (by omega)).trans (qac W _)) ((f.block L (by omega)).trans ((a.out.block L z).trans q)) (λU A=>x U ?_);exact(a.out.trans (f.mono (by omega))).trans (A.mono (by simp;omega)))
 have n:=v;rcases r with⟨D,F⟩|d
 ·go_enter func39,ntmps39
  go_wp2_with(first
   |(go_at_call 11;refine n.mono ?_;rintro e m ⟨l,hF⟩;obtain rfl:=hF;have c:=qab (a.out.trans (l.mono a.out.size))))
  go_ret3
  exact⟨c.out,rfl⟩
 go_enter func39,ntmps39
 go_wp2_with(first
  |(go_at_call 11;refine n.mono ?_;rintro e m ⟨l,hF⟩;obtain⟨t,y,rfl,B⟩:=hF;have c:=qab (a.out.trans (l.mono a.out.size));have u:Hid (qah k m (λj=>W.heap.size<=j/\j<m.heap.size) (.iface t y) d):=B.same (λj s=>⟨kaj a.out.size s.1,s.2⟩) (λ_ _=>rfl)))
 go_ret3
 exact⟨c.out,t,y,rfl,u.out⟩

def qyD(r:Except (Int×Int) (DataW Unit))(n:Nat):Int:=match r with
 |.ok _=>0
 |.error (en,pl)=>if pl=n then 0 else en
def qg2(W:World)(L base:Nat)(g:Gt)(fed:Value)(l:List UInt8)(en:Int)(e:Ending)(W':World):Prop :=
 ∃fa fn fc,e=.returned (.int .i64 en)/\Own W' base (.slice fa fn fc) l/\W'.heap[L]?=some (.cells (qaz g (.slice fa fn fc) false) 96)/\(W'.os=W.os/\W'.tape=W.tape/\W'.output=W.output)/\W.heap.size<=W'.heap.size/\∀k,k<W.heap.size->k≠L->some k≠fed.ownBlock->W'.heap[k]?=W.heap[k]?
theorem qtJ(k:Nat)(W:World)(L n:Nat)(g:Gt)(I:g.rc.size=40)(o:Value)(D:List UInt8)(J:Option Addr)(F:Nat)(bs l:List UInt8)(c:l=D++bs.take (g.bytes+1-D.length))(O:W.heap[L]?=some (.cells (qaz g o false) 96))(S:Own W n o D)(hL:L<n)(y:qau W J bs)(aa:J=none->F=0)(ak:bs.length<=F)(aj:g.bytes<=4096)(ag:D.length<=g.bytes+1)(r:Except (Int×Int) (DataW Unit))(ah:∀f u,r=.error (f,u)->f≠0)(X:∀U h i,(∀j,j<L->U.heap[j]?=W.heap[j]?)->qau U h l->Calls prog 13 #[.int .i64 g.inF,.agg #[.int .i64 g.depth,.int .i64 g.bytes],.slice h l.length i] U (qey k U r)):Calls prog 16 #[.pointer (some ⟨L,0,none⟩),.slice J bs.length F] W (qg2 W L n g o l (qyD r l.length)):=by
 have Q:=qsA W L n g I o D J F bs O S hL y aa ak aj ag;rw[<-c]at Q;have V:W.cell? ⟨L,46,none⟩=some (.bool false):=(qaa O 46).trans (qcF I _ _ 2);have HD:=qab X;have ab:Hid (∀j,j<L->some j≠o.ownBlock):=λj b e=>by have:=qbH S.1 e.symm;omega
 have an:=ltA O;have T:=qab I;have E:Calls prog 38 #[.pointer (some ⟨L,0,none⟩),.slice J bs.length F] W λe s=>∃h i,e=.returned (.tuple #[])/\Hid (qg2 W L n g o l 0 (.returned (.int .i64 0)) s)/\Hid (s.heap[L]?=some (.cells (qaz g (.slice h l.length i) false) 96))/\Hid (Own s n (.slice h l.length i) l)/\Calls prog 39 #[.pointer (some ⟨L,0,none⟩)] s (qtu k s r):=Q.mono (by
  rintro e s ⟨h,fn,i,rfl,G,x,H,M,N⟩;obtain⟨al,am,K,ai⟩:=qcw G;injection K with K Y Z;subst K;subst Y;subst Z;refine⟨h,i,rfl,⟨h,_,i,rfl,G,x,H,M,N⟩,x,G,qni k s L g I h l.length i false r x (λU t=>HD.out U h i (λj b=>?_) (ai.below t))⟩;exact(t.block j (by omega)).trans (N j (by omega) (by omega) (ab.out j b)))
 clear Q X O S y aa I c;have R:∀{v p:World} {h:Option Addr} {i:Nat} {f:Int},qg2 W L n g o l 0 (.returned (.int .i64 0)) v->v.heap[L]?=some (.cells (qaz g (.slice h l.length i) false) 96)->Own v n (.slice h l.length i) l->Below v.heap.size v p->qg2 W L n g o l f (.returned (.int .i64 f)) p:=by
  rintro v p h i f ⟨_,_,_,_,_,_,H,M,N⟩ x G m;exact⟨h,_,i,rfl,qhl G m,(m.block L (ltA x)).trans x,⟨m.os.trans H.1,m.tape.trans H.2.1,m.output.trans H.2.2⟩,kaj M m.size,λj a ac ad=>(m.block j (kai a M)).trans (N j a ac ad)⟩
 rcases r with⟨f,u⟩|af
 ·have d:=ah f u rfl;have K:(f==0)=false:=by simpa using d
  have Y:(f != 0)=true:=by simpa using d
  by_cases P:u=l.length
  ·have B:Hid (qyD (.error (f,u)) l.length=0):=by show(if _ then _ else _)=_;rw[kag P]
   rw[B.out];subst P;go_enter func16,ntmps16
   go_wp2_with(first
    |(go_at_call 38;refine E.mono ?_;clear E V;rintro e w3 ⟨h,i,rfl,z,q,A,w⟩)
    |(go_at_call 39;refine w.mono ?_;clear w;rintro e p ⟨m,hF⟩;obtain rfl:=hF;have C:Hid (∀f,qg2 W L n g o l f (.returned (.int .i64 f)) p):=λf=>R z.out q.out A.out m;have ae:p.cell? ⟨L,45,none⟩=some (.slice h l.length i):=(qaa ((m.block L (ltA q.out)).trans q.out) 45).trans (qcF T.out _ _ 1);clear m))
   go_ret;exact C.out 0
  have B:Hid (qyD (.error (f,u)) l.length=f):=by show(if _ then _ else _)=_;rw[kac P]
  rw[B.out];have Z:(u==(l.length:Int))=false:=by simpa using P
  go_enter func16,ntmps16
  go_wp2_with(first
   |(go_at_call 38;refine E.mono ?_;clear E V;rintro e w3 ⟨h,i,rfl,z,q,A,w⟩)
   |(go_at_call 39;refine w.mono ?_;rintro e p ⟨m,hF⟩;obtain rfl:=hF;have C:Hid (∀f,qg2 W L n g o l f (.returned (.int .i64 f)) p):=λf=>R z.out q.out A.out m;have ae:p.cell? ⟨L,45,none⟩=some (.slice h l.length i):=(qaa ((m.block L (ltA q.out)).trans q.out) 45).trans (qcF T.out _ _ 1)))
  go_ret;exact C.out f
 have B:Hid (qyD (.ok af) l.length=0):=rfl;rw[B.out];go_enter func16,ntmps16
 go_wp2_with(first
  |(go_at_call 38;refine E.mono ?_;rintro e w3 ⟨h,i,rfl,z,q,A,w⟩)
  |(go_at_call 39;refine w.mono ?_;rintro e p ⟨m,hF⟩;obtain⟨ao,ap,rfl,_⟩:=hF;have C:Hid (∀f,qg2 W L n g o l f (.returned (.int .i64 f)) p):=λf=>R z.out q.out A.out m))
 go_ret;exact C.out 0

end
end Go.Proofs.YtmajcjammmjimaaGreatDoor
