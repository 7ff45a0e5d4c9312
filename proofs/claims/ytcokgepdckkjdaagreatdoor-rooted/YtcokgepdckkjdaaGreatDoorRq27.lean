import Derived.Test.YtcokgepdckkjdaaGreatDoorRq26
set_option maxRecDepth 100000
set_option maxHeartbeats 8000000
namespace Go.Proofs.YtcokgepdckkjdaaGreatDoor
open Go.Proofs.Tryz
section
open Go.RowKit
def qvG (k:Nat)(W:World)(r:Except (Int×Int) (DataW Unit))(e:Ending)(W':World):Prop :=
 Below W.heap.size W W'/\match r with
 |.ok d=>∃t y,e=.returned (.tuple #[.iface t y,.int .i64 0,.int .i64 0])/\qai k W' (fun j=>W.heap.size<=j/\j<W'.heap.size) (.iface t y) d
 |.error (en,pl)=>e=.returned (.tuple #[.nilIface,.int .i64 en,.int .i64 pl])
theorem qjU (k:Nat)(W:World)(v:Array Value)(r:Except (Int×Int) (DataW Unit))(D:Calls prog 65 v ((W.alloc (.cells #[.int .i64 0] 33)).alloc (.cells #[.int .i64 0] 3)) (qg6 k ((W.alloc (.cells #[.int .i64 0] 33)).alloc (.cells #[.int .i64 0] 3)) r)):Calls prog 64 #[.func (.func 65) #[] v] W (qvG k W r):=by
 have T:∀(x:Fn) (first u:Array Value) (w:World),(Instr.makeFunc x first u).run prog w=.ok (.func x first u) w:=fun _ _ _ _=>rfl;have B:Below W.heap.size W ((W.alloc (.cells #[.int .i64 0] 33)).alloc (.cells #[.int .i64 0] 3)):=(bwA).alloc (by simp) _;have K:=Boxed.new W 33 (.int .i64 0);have z:=Boxed.new (W.alloc (.cells #[.int .i64 0] 33)) 3 (.int .i64 0);have L:=K.alloc (.cells #[.int .i64 0] 3);rw[World.size_alloc] at z;have h:=qaa B;have l:=qaa L;have m:=qaa z
 go_enter_defers func64,ntmps64
 go_wp2_with fail
 refine D.mono ?_;rcases r with ⟨E,M⟩|d
 ·rintro e a ⟨b,hF⟩;obtain rfl:=hF;have q1:Boxed a W.heap.size 33 (.int .i64 0):=(b.block _ l.out.lt).trans l.out;have g:Boxed a (W.heap.size+1) 3 (.int .i64 0):=(b.block _ m.out.lt).trans m.out;have p:=h.out.trans (b.mono h.out.size);have n:=qaa q1;have o:=qaa g;have i:=qaa p;go_wp2;refine leaves_cons (f:=89) (args:=#[.pointer (some ⟨W.heap.size,0,none⟩),.pointer (some ⟨W.heap.size+1,0,none⟩)]) (by simp) (by simp[go_sem]) ?_;refine(qmS W.heap.size (W.heap.size+1) E M 0 0 a n.out.cell o.out.cell n.out.frozen o.out.frozen (by omega)).mono ?_;rintro e P Q ⟨rfl,rfl,s,c2,C⟩;have q:=i.out.trans (C _ (Nat.le_refl _) (by omega) i.out.size);simp[Leaves,settle,results,results64,go_sem,s,c2,qvG,q]
 rintro e a ⟨b,J⟩;obtain⟨t,y,rfl,H⟩:=(show ∃t y,e=.returned (.iface t y)/\qai k a (fun j=>((W.alloc (.cells #[.int .i64 0] 33)).alloc (.cells #[.int .i64 0] 3)).heap.size<=j/\j<a.heap.size) (.iface t y) d from J)
 have A:Hid (qai k a (fun j=>W.heap.size+2<=j/\j<a.heap.size) (.iface t y) d):=H.same (fun j c=>⟨by have:=c.1;simp only[World.size_alloc] at this;omega,c.2⟩) (fun _ _=>rfl);have q1:Boxed a W.heap.size 33 (.int .i64 0):=(b.block _ l.out.lt).trans l.out;have g:Boxed a (W.heap.size+1) 3 (.int .i64 0):=(b.block _ m.out.lt).trans m.out;have p:=h.out.trans (b.mono h.out.size);have n:=qaa q1;have o:=qaa g;have i:=qaa p;have s:=q1.cell;have f1:=q1.frozen;have c2:=g.cell;have R:=g.frozen;go_wp2;have F:=grownBy_setCell' a W.heap.size (.int .i64 0);have G:=grownBy_setCell' (a.setCell ⟨W.heap.size,0,none⟩ (.int .i64 0)) (W.heap.size+1) (.int .i64 0);have N:=((n.out.set (.int .i64 0)).kept G (by intro e;injection e with e;omega)).cell;have O:=(Boxed.set (.int .i64 0) (o.out.kept F (by intro e;injection e with e;omega))).cell;have q:Below W.heap.size W ((a.setCell ⟨W.heap.size,0,none⟩ (.int .i64 0)).setCell ⟨W.heap.size+1,0,none⟩ (.int .i64 0)) :=
  i.out.trans ⟨rfl,rfl,rfl,by simp[World.setCell],fun k S=>(heap_setCell_other _ _ _ _ (by simp;omega)).trans (heap_setCell_other a _ _ _ (by simp;omega))⟩
 have I:qai k ((a.setCell ⟨W.heap.size,0,none⟩ (.int .i64 0)).setCell ⟨W.heap.size+1,0,none⟩ (.int .i64 0)) (fun j=>W.heap.size<=j/\j<((a.setCell ⟨W.heap.size,0,none⟩ (.int .i64 0)).setCell ⟨W.heap.size+1,0,none⟩ (.int .i64 0)).heap.size) (.iface t y) d:=A.out.same (fun j c=>⟨by omega,by simp[World.setCell];exact c.2⟩) (fun j c=>(heap_setCell_other _ _ _ _ (by simp;omega)).trans (heap_setCell_other a _ _ _ (by simp;omega)));generalize (a.setCell ⟨W.heap.size,0,none⟩ (.int .i64 0)).setCell ⟨W.heap.size+1,0,none⟩ (.int .i64 0)=V at *;refine leaves_cons (f:=89) (args:=#[.pointer (some ⟨W.heap.size,0,none⟩),.pointer (some ⟨W.heap.size+1,0,none⟩)]) (by simp) (by simp[go_sem]) ?_;refine(qms ⟨W.heap.size,0,none⟩ ⟨W.heap.size+1,0,none⟩ V).mono ?_;rintro e P Q ⟨rfl,rfl,rfl⟩;simp[Leaves,settle,results,results64,go_sem,N,O,qvG,q];exact⟨t,y,⟨rfl,rfl⟩,I⟩

end
section
open Go.RowKit Go.Lib
theorem q10 (k:Nat)(W:World)(F:Nat->Prop)(u:Value)(xs:List Value)(ds:List (DataW Unit))(f:DataW Unit->List UInt8)(hF:∀j,F j->j<W.heap.size)(hr:qb1 W 55 5 F u ds.length xs)(A:∀(i:Nat) (d:DataW Unit),ds[i]? = some d->∃a,qz1 xs i a/\qxY k W F (.agg a) d)(N:(qaj 4 ds.length++ds.flatMap f).length<=999999999)(ih:∀(V:World) (a:Array Value) (d:DataW Unit),(∀j,F j->j<V.heap.size)->qxY k V F (.agg a) d->(f d).length<=999999999->Calls prog 33 #[.agg a] V (WrS (f d) V)):Calls prog 33 #[.agg (thA 6 0 ⟨#[]⟩ qxE u)] W (WrS (qaj 4 ds.length++ds.flatMap f) W):=by
 obtain⟨O,a,D,rfl,P⟩:=qz3 hr;have l:Hid (qzq W (thA 6 0 ⟨#[]⟩ qxE (.slice a ds.length D)) (W.alloc (.cells (thA 6 0 ⟨#[]⟩ qxE (.slice a ds.length D)) 55))):=qzw _ _;have c:=fun V=>qxM V 4 ds.length (by decide) O;obtain⟨n,L⟩:∃n,ds.length=n:=⟨_,rfl⟩
 obtain⟨b,I⟩:∃b,Hid (qaj 4 ds.length=b):=⟨_,show _=_ from rfl⟩
 have Q:Hid (∀i,i<n->∃d g v z s t w x y B C,ds[i]? = some d/\a=some ⟨g,0,none⟩/\(∀V,Below W.heap.size W V->(V.cell? ⟨g,i*5,none⟩=some (.int .i64 v)/\V.cell? ⟨g,i*5+1,none⟩=some (.int .i64 z)/\V.cell? ⟨g,i*5+2,none⟩=some (.string s)/\V.cell? ⟨g,i*5+3,none⟩=some (.slice t w x)/\V.cell? ⟨g,i*5+4,none⟩=some (.slice y B C))/\Calls prog 33 #[.agg #[.int .i64 v,.int .i64 z,.string s,.slice t w x,.slice y B C]] V (WrS (f d) V))):=fun i hi=>by
  obtain⟨d,m⟩:∃d,ds[i]? = some d:=⟨_,List.getElem?_eq_getElem (by omega)⟩
  obtain⟨ad,hs,K⟩:=A i d m;obtain⟨v,z,s,t,w,x,y,B,C,e⟩:=K.shape;injection e with e;subst e;obtain⟨g,U,r,q⟩:=P i _ (by omega) hs;have aa:(f d).length<=999999999:=by
   have E:=qy6 f ds i d m;have X:=qy3 f ds (i+1);rw[E,List.length_append] at X;rw[List.length_append] at N;omega
  refine⟨d,g,v,z,s,t,w,x,y,B,C,m,U,fun V G=>⟨?_,ih V _ d (fun j H=>Nat.lt_of_lt_of_le (hF j H) G.size) (K.same (fun _ h=>h) (fun j H=>G.block j (hF j H))) aa⟩⟩;have p:=G.block g (hF g r);exact⟨q V p 0 (by decide),q V p 1 (by decide),q V p 2 (by decide),q V p 3 (by decide),q V p 4 (by decide)⟩
 have R:Hid (∀i,(b++(ds.take i).flatMap f).length<=999999999):=fun i=>by
  have:=qy3 f ds i;rw[<-I.out];rw[List.length_append] at N ⊢;omega
 have T:Hid (ds.flatMap f=(ds.take n).flatMap f):=by show _=_;rw[<-L,List.take_length]
 rw[T.out];rw[I.out] at c ⊢;rw[L] at c l O ⊢;have S:Hid (∀i d,ds[i]? = some d->b++(ds.take (i+1)).flatMap f=(b++(ds.take i).flatMap f)++f d):=fun i d m=>by rw[qy6 f ds i d m,List.append_assoc]
 unfold thA qxE at *;go_enter func33,ntmps33
 go_wp2_with (first|(go_at_call 49;refine(c _).mono ?_;rintro e w2 ⟨rfl,Y⟩;unfold qyh))
 go_loopg [3,4] n (fun g zs zi wr=>∃(i:Nat) (o:List UInt8),zs=.string ⟨o.toArray⟩/\zi=.int .i64 i/\Hid (i+g=n)/\Hid (o=b++(ds.take i).flatMap f)/\Hid (qzq W #[.int .i64 6,.int .i64 0,.string ⟨#[]⟩,.slice none 0 0,.slice a n D] wr))
 case atStart=>exact⟨0,b,rfl,rfl,by show _=_;omega,by show _=_;simp,l.out.next Y⟩
 case round =>
  obtain⟨i,o,rfl,rfl,r,M,l⟩:=hrel;have c4:=qab l.out.box 4
  cases gk with
  |zero =>
   obtain rfl:i=n:=r.out;have ac:¬(i:Int)<(i:Int):=by omega
   go_wp2;go_ret;rw[<-M.out];exact⟨rfl,l.out.below⟩
  |succ g =>
   have ab:i<n:=by have:=r.out;omega
   have ac:(i:Int)<(n:Int):=by omega
   obtain⟨d,gb,v,z,s,t,w,x,y,B,C,m,rfl,hk⟩:=Q.out i ab;obtain⟨⟨k0,k1,k2,k3,k4⟩,ck⟩:=hk _ l.out.below;have J:Hid (b++(ds.take (i+1)).flatMap f=o++f d):=by show _=_;rw[S.out i d m,<-M.out]
   have ae:¬(o.length+(f d).length>9223372036854775807):=by
    have E:=R.out (i+1);rw[J.out,List.length_append] at E;omega
   go_wp2_with (first|(go_at_call 33;refine ck.mono ?_;rintro e w3 ⟨rfl,Z⟩;unfold qyh))
   go_roundg g
   case measure=>omega
   case rel=>exact⟨i+1,o++f d,by rw[<-qyf],by go_num,by show _=_;have:=r.out;omega,J.out.symm,l.out.next Z⟩

theorem qxY.key {es:List (Lit×DataW Unit)}{i:Nat}{key:Lit}{d:DataW Unit}{l:List UInt8}(h:es[i]? = some (key,d))(e:key=.string l):es[i]? = some (.string l,d):=e▸h
theorem q2o (k:Nat)(W:World)(F:Nat->Prop)(kv u:Value)(xs:List Value)(m:List (Lit×DataW Unit))(f:DataW Unit->List UInt8)(hF:∀j,F j->j<W.heap.size)(hq:qb1 W 9 1 F kv m.length (m.map q3d))(hr:qb1 W 55 5 F u m.length xs)(ha:∀(i:Nat) (key:Lit) (d:DataW Unit),m[i]? = some (key,d)->∃l a,key=.string l/\qz1 xs i a/\qxY k W F (.agg a) d)(hl:(qaj 5 m.length++m.flatMap fun e=>(qaj 3 (qb7 e.1).length++qb7 e.1)++f e.2).length<=999999999)(ih:∀(V:World) (a:Array Value) (d:DataW Unit),(∀j,F j->j<V.heap.size)->qxY k V F (.agg a) d->(f d).length<=999999999->Calls prog 33 #[.agg a] V (WrS (f d) V)):Calls prog 33 #[.agg (thA 7 0 ⟨#[]⟩ kv u)] W (WrS (qaj 5 m.length++m.flatMap fun e=>(qaj 3 (qb7 e.1).length++qb7 e.1)++f e.2) W):=by
 obtain⟨hn,a,N,rfl,HC⟩:=qz3 hr;obtain⟨b,J,rfl,HQ⟩:=q1a hq;obtain⟨q,ac⟩:∃q:Lit×DataW Unit->List UInt8,Hid ((fun e=>(qaj 3 (qb7 e.1).length++qb7 e.1)++f e.2)=q):=⟨_,show _=_ from rfl⟩
 rw[ac.out] at hl ⊢;have M:Hid (qzq W (thA 7 0 ⟨#[]⟩ (.slice b m.length J) (.slice a m.length N)) (W.alloc (.cells (thA 7 0 ⟨#[]⟩ (.slice b m.length J) (.slice a m.length N)) 55))):=qzw _ _;have c:=fun V=>qxM V 5 m.length (by decide) hn;obtain⟨n,hN⟩:∃n,m.length=n:=⟨_,rfl⟩
 obtain⟨w,H0⟩:∃w,Hid (qaj 5 m.length=w):=⟨_,show _=_ from rfl⟩
 have af:Hid (∀i,i<n->∃e l v g gk B z s y C D E G H,m[i]? = some e/\q e=(qaj 3 l.length++l)++v/\a=some ⟨g,0,none⟩/\b=some ⟨gk,0,none⟩/\(∀V,Below W.heap.size W V->V.cell? ⟨gk,i,none⟩=some (.string ⟨l.toArray⟩)/\(V.cell? ⟨g,i*5,none⟩=some (.int .i64 B)/\V.cell? ⟨g,i*5+1,none⟩=some (.int .i64 z)/\V.cell? ⟨g,i*5+2,none⟩=some (.string s)/\V.cell? ⟨g,i*5+3,none⟩=some (.slice y C D)/\V.cell? ⟨g,i*5+4,none⟩=some (.slice E G H))/\Calls prog 33 #[.agg #[.int .i64 B,.int .i64 z,.string s,.slice y C D,.slice E G H]] V (WrS v V))):=fun i hi=>by
  obtain⟨⟨key,d⟩,x⟩:∃e,m[i]? = some e:=⟨_,List.getElem?_eq_getElem (by omega)⟩
  obtain⟨l,ao,am,hs,hA⟩:=ha i key d x;subst am;obtain⟨B,z,s,y,C,D,E,G,H,e⟩:=hA.shape;injection e with e;subst e;obtain⟨g,ea,T,R⟩:=HC i _ (by omega) hs;obtain⟨gk,eb,ak,ai⟩:=HQ i l d x;have Y:q (.string l,d)=(qaj 3 l.length++l)++f d:=by rw[<-ac.out];rfl
  have aj:(f d).length<=999999999:=by
   have h1:=qy6 q m i _ x;have h2:=qy3 q m (i+1);rw[h1,Y,List.length_append,List.length_append] at h2;rw[List.length_append] at hl;omega
  refine⟨(.string l,d),l,f d,g,gk,B,z,s,y,C,D,E,G,H,x,Y,ea,eb,fun V O=>⟨ai V (O.block gk (hF gk ak)),?_,ih V _ d (fun j hj=>Nat.lt_of_lt_of_le (hF j hj) O.size) (hA.same (fun _ ad=>ad) (fun j hj=>O.block j (hF j hj))) aj⟩⟩;have Q:=O.block g (hF g T);exact⟨R V Q 0 (by decide),R V Q 1 (by decide),R V Q 2 (by decide),R V Q 3 (by decide),R V Q 4 (by decide)⟩
 have HL:Hid (∀i,(w++(m.take i).flatMap q).length<=999999999):=fun i=>by
  have:=qy3 q m i;rw[<-H0.out];rw[List.length_append] at hl ⊢;omega
 have HT:Hid (m.flatMap q=(m.take n).flatMap q):=by show _=_;rw[<-hN,List.take_length]
 rw[HT.out];rw[H0.out] at c ⊢;rw[hN] at c M hn ⊢;have HS:Hid (∀i d,m[i]? = some d->w++(m.take (i+1)).flatMap q=(w++(m.take i).flatMap q)++q d):=fun i d x=>by rw[qy6 q m i d x,List.append_assoc]
 have cK:∀(V:World) (l:List UInt8),l.length<=999999999->Calls prog 49 #[.int .i64 3,.int .i64 l.length] V (WrS (qaj 3 l.length) V):=fun V l ad=>qxM V 3 l.length (by decide) (by omega);unfold thA at *;go_enter func33,ntmps33
 go_wp2_with (first|(go_at_call 49;refine(c _).mono ?_;rintro e w2 ⟨rfl,aa⟩;unfold qyh))
 go_loopg [5,6] n (fun g zs zi wr=>∃(i:Nat) (L:List UInt8),zs=.string ⟨L.toArray⟩/\zi=.int .i64 i/\Hid (i+g=n)/\Hid (L=w++(m.take i).flatMap q)/\Hid (qzq W #[.int .i64 7,.int .i64 0,.string ⟨#[]⟩,.slice b n J,.slice a n N] wr))
 case atStart=>exact⟨0,w,rfl,rfl,by show _=_;omega,by show _=_;simp,M.out.next aa⟩
 case round =>
  obtain⟨i,L,rfl,rfl,T,ae,M⟩:=hrel;have c4:=qab M.out.box 4
  cases gk with
  |zero =>
   obtain rfl:i=n:=T.out;have an:¬(i:Int)<(i:Int):=by omega
   go_wp2;go_ret;rw[<-ae.out];exact⟨rfl,M.out.below⟩
  |succ g =>
   have al:i<n:=by have:=T.out;omega
   have an:(i:Int)<(n:Int):=by omega
   obtain⟨ee,l,v,r,gk,B,z,s,y,C,D,E,G,H,x,Y,rfl,rfl,hk⟩:=af.out i al;obtain⟨I,K⟩:∃I,Hid (L++qaj 3 l.length=I):=⟨_,show _=_ from rfl⟩
   obtain⟨t,h⟩:∃t,Hid (I++l=t):=⟨_,show _=_ from rfl⟩
   have HN:Hid (w++(m.take (i+1)).flatMap q=t++v):=by show _=_;rw[HS.out i ee x,<-ae.out,Y,<-h.out,<-K.out];simp only[List.append_assoc]
   have ab:l.length<=999999999/\¬(L.length+(qaj 3 l.length).length>9223372036854775807)/\¬(I.length+l.length>9223372036854775807)/\¬(t.length+v.length>9223372036854775807):=by
    have h1:=HL.out (i+1);rw[HN.out,List.length_append] at h1;have h2:t.length=I.length+l.length:=by rw[<-h.out,List.length_append]
    have h3:I.length=L.length+(qaj 3 l.length).length:=by rw[<-K.out,List.length_append]
    omega
   obtain⟨ab,g1,g2,g3⟩:=ab;have U:Hid (∀V,qzq W #[.int .i64 7,.int .i64 0,.string ⟨#[]⟩,.slice (some ⟨gk,0,none⟩) n J,.slice (some ⟨r,0,none⟩) n N] V->V.cell? ⟨gk,i,none⟩=some (.string ⟨l.toArray⟩)/\(V.cell? ⟨r,i*5,none⟩=some (.int .i64 B)/\V.cell? ⟨r,i*5+1,none⟩=some (.int .i64 z)/\V.cell? ⟨r,i*5+2,none⟩=some (.string s)/\V.cell? ⟨r,i*5+3,none⟩=some (.slice y C D)/\V.cell? ⟨r,i*5+4,none⟩=some (.slice E G H))/\Calls prog 33 #[.agg #[.int .i64 B,.int .i64 z,.string s,.slice y C D,.slice E G H]] V (WrS v V)):=fun V O=>hk V O.below;have ck:=fun V=>cK V l ab
   go_wp2_with fail
   refine rgn (S:=qzq W #[.int .i64 7,.int .i64 0,.string ⟨#[]⟩,.slice (some ⟨gk,0,none⟩) n J,.slice (some ⟨r,0,none⟩) n N]) M.out.drew (by kernel_rfl) ?_;intro o;refine tkk 0 84 (.string ⟨L.toArray⟩) (by kernel_rfl) iQ3 o ?_;refine tkk 1 85 (.pointer (some ⟨W.heap.size,3,none⟩)) (by kernel_rfl) iQ3 o ?_;refine tk 2 86 (.slice (some ⟨gk,0,none⟩) n J) rfl (by kernel_rfl) iQ3 (fun Z p => ?y2) o ?_
   case y2=>(have A:=qab p.box 3;go_simp)
   refine tkk 3 87 (.int .i64 i) (by kernel_rfl) iQ3 o ?_;refine tk 4 88 (.pointer (some ⟨gk,i,none⟩)) rfl (by kernel_rfl) iQ3 (fun Z p => ?y4) o ?_
   case y4=>go_simp
   refine tk 5 89 (.string ⟨l.toArray⟩) rfl (by kernel_rfl) iQ3 (fun Z p => ?y5) o ?_
   case y5=>(have A:=(U.out Z p).1;go_simp)
   refine tk 6 90 (.int .i64 l.length) rfl (by kernel_rfl) iQ3 (fun Z p => ?y6) o ?_
   case y6=>go_simp
   refine tkk 9 93 (.pointer (some ⟨W.heap.size,3,none⟩)) (by kernel_rfl) iQ3 o ?_;refine tk 10 94 (.slice (some ⟨gk,0,none⟩) n J) rfl (by kernel_rfl) iQ3 (fun Z p => ?z2) o ?_
   case z2=>(have A:=qab p.box 3;go_simp)
   refine tkk 11 95 (.int .i64 i) (by kernel_rfl) iQ3 o ?_;refine tk 12 96 (.pointer (some ⟨gk,i,none⟩)) rfl (by kernel_rfl) iQ3 (fun Z p => ?z4) o ?_
   case z4=>go_simp
   refine tk 13 97 (.string ⟨l.toArray⟩) rfl (by kernel_rfl) iQ3 (fun Z p => ?z5) o ?_
   case z5=>(have A:=(U.out Z p).1;go_simp)
   refine tkk 15 99 (.pointer (some ⟨W.heap.size,4,none⟩)) (by kernel_rfl) iQ3 o ?_;refine tk 16 100 (.slice (some ⟨r,0,none⟩) n N) rfl (by kernel_rfl) iQ3 (fun Z p => ?x2) o ?_
   case x2=>(have A:=qab p.box 4;go_simp)
   refine tkk 17 101 (.int .i64 i) (by kernel_rfl) iQ3 o ?_;refine tk 18 102 (.pointer (some ⟨r,i*5,none⟩)) rfl (by kernel_rfl) iQ3 (fun Z p => ?x4) o ?_
   case x4=>go_simp
   refine tk 19 103 (.agg #[.int .i64 B,.int .i64 z,.string s,.slice y C D,.slice E G H]) rfl (by kernel_rfl) iQ3 (fun Z p => ?x5) o ?_
   case x5=>(obtain⟨k0,k1,k2,k3,k4⟩:=(U.out Z p).2.1;go_simp)
   refine rdH 7 rfl (by kernel_rfl) (fun ag hK => ?_);go_simp;refine(ck _).mono ?_;rintro e w2 ⟨rfl,aa⟩;have P:=o.next aa
   refine hK.out _ _ P (fun _ => ?_);refine tk 8 92 (qyh I) rfl (by kernel_rfl) iQ3 (fun Z p => ?u1) P ?_
   case u1=>(unfold qyh;go_simp;rw[<-K.out];exact qyf _ _)
   refine tk 14 98 (qyh t) rfl (by kernel_rfl) iQ3 (fun Z p => ?u2) P ?_
   case u2=>(unfold qyh;go_simp;rw[<-h.out];exact qyf _ _)
   refine rdH 20 rfl (by kernel_rfl) (fun ag hK => ?_);go_simp;refine(U.out _ P).2.2.mono ?_;rintro e w3 ⟨rfl,ah⟩;have X:=P.next ah
   refine hK.out _ _ X (fun _ => ?_);refine tk 21 105 (qyh (t++v)) rfl (by kernel_rfl) iQ3 (fun Z p => ?u3) X ?_
   case u3=>(unfold qyh;go_simp;exact qyf _ _)
   refine tkk 22 5 (qyh (t++v)) (by kernel_rfl) iQ3 X ?_;refine wpAnyH_done (by kernel_rfl) ?_ _;go_wp2;go_roundg g
   case measure=>omega
   case rel=>exact⟨i+1,_,rfl,by go_num,by show _=_;have:=T.out;omega,HN.out.symm,X⟩

end
end Go.Proofs.YtcokgepdckkjdaaGreatDoor
