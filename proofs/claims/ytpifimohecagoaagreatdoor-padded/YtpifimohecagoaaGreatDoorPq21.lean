import Derived.Test.YtpifimohecagoaaGreatDoorPq20
set_option maxRecDepth 100000
set_option maxHeartbeats 8000000
namespace Go.Proofs.YtpifimohecagoaaGreatDoor
open Go.Proofs.Tryz
variable{V V' W W' w:World}{F:Nat->Prop}{N base i k n p u:Nat}{v v':Value}{bs cur l:List UInt8}{d:DataW Unit}{s:ByteArray}{o:Oper}{c:Cfg}
section
open Go.RowKit Go.Lib
theorem qai.iface:∀{k:Nat} {v:Value} {d:DataW Unit},qai k V F v d->∃t y,v=.iface t y
 |0,_,_,h=>h.elim
 |k+1,v,d,h=>by
  unfold qai at h;split at h
  ·exact⟨_,_,h⟩
  ·exact⟨_,_,h⟩
  ·exact⟨_,_,h.1⟩
  ·exact⟨_,_,h⟩
  ·obtain⟨u,e,_⟩:=h;exact⟨_,_,e⟩
  ·obtain⟨u,a,e,_⟩:=h;exact⟨_,_,e⟩
  ·obtain⟨u,a,e,_⟩:=h;exact⟨_,_,e⟩
  exact h.elim
theorem qjc:∀(k:Nat) (W:World) (F:Nat->Prop) (v:Value) (d:DataW Unit),(∀j,F j->j<W.heap.size)->qai k W F v d ->
  Calls prog 68 #[v] W λe w=>e=.returned (.bool (qdu k d))/\Below W.heap.size W w
 |0,_,_,_,_,_,h=>h.elim
 |k+1,W,F,v,d,hF,h=>by
  have s:∀x c,qai k W F x c->qv7 W x (qdu k c):=λx c n V r =>
   qjc k V F x c (λj o=>Nat.lt_of_lt_of_le (hF j o) r.size) (n.same (λ_ h=>h) (λj o=>r.block j (hF j o)))
  unfold qai at h;split at h
  ·subst h;exact qoq W
  ·subst h;exact qs6 W _
  ·obtain⟨rfl,_⟩:=h;exact qqb W _
  ·subst h;exact qvW W _
  ·obtain⟨u,rfl,a⟩:=h;rcases a.2 with⟨rfl,_⟩|⟨g,E,G,rfl,_⟩
   ·exact qnb W _ _ _
   exact qnb W _ _ _
  ·obtain⟨u,p,rfl,a,m⟩:=h;refine qvG (qdu k) W u F hF _ p a (λi x d b f=>s x d (m i x d b f)) (λi x n=>?_);have C:=List.getElem?_eq_getElem (show i<_ from by
    have b:=ltL n;have f:=a.1;rw[Nat.mul_one]at f;rwa[f]at b)
   exact(m i x _ n C).iface
  ·obtain⟨u,p,rfl,a,m⟩:=h;refine qxB (qdu k) W u F hF _ p a (λi D d b=>?_);obtain⟨l,x,z,A,B,q⟩:=m i D d b;obtain⟨t,y,rfl⟩:=q.iface;exact⟨l,t,y,z,A,B,s _ d q⟩
  exact h.elim

def qaG:Lit->List UInt8
 |.string l=>l
 |_=>[]
theorem qxP(h:Own W base v bs):v.ownBlock≠some W.heap.size:=by
 obtain⟨b,_,_⟩:=h;rcases b.2 with⟨rfl,_⟩|⟨g,c,d,rfl,_,a,_⟩
 ·intro e;cases e
 have:=ltA a;intro e;simp[Value.ownBlock]at e;omega
theorem qjL(h:Own W base v bs)(o:Obj):qhl (W.alloc o) base W.heap.size v bs:=⟨⟨h.1.alloc _,by have:=h.2.1;simp;omega,h.2.2⟩,qxP h,by simp⟩
theorem qvo(T:DataW Unit->List UInt8)(W:World)(f:Nat)(v u:Value)(F:Nat->Prop)(hF:∀k,F k->k<f)(bs:List UInt8)(b:List (Lit×DataW Unit))(O:List Value)(x:bs.length+((qaj 5 b.length)++b.flatMap (λe:Lit×DataW Unit=>(qaj 3 (qaG e.1).length++qaG e.1)++T e.2)).length<=999999999)(hn:b.length<=999999999)(z:qb7 W 198 2 F u b.length O)(ai:∀(i:Nat) (D:Lit) (d:DataW Unit),b[i]?=some (D,d)->∃l t y,D=.string l/\O[2*i]?=some (.string ⟨l.toArray⟩)/\O[2*i+1]?=some (.iface t y)/\qcd W f (.iface t y) (T d))(h:Own W f v bs):Calls prog 86 #[v,.iface 196 u] W λe p=>∃s,e=.returned s/\Own p f s (bs++(qaj 5 b.length++b.flatMap (λe:Lit×DataW Unit=>(qaj 3 (qaG e.1).length++qaG e.1)++T e.2)))/\Below f W p:=by
 have ak:bs.length<=999999999:=by omega
 obtain⟨a,n,c,rfl⟩:=h.2.2;have cH:Calls prog 107 #[.slice a n c,.int .u8 5,.int .u64 b.length] W λe p=>∃s,e=.returned s/\Own p f s (bs++qaj 5 b.length)/\Below f W p:=qbw W f (.slice a n c) bs 5 b.length (by decide) (by omega) ak h;obtain⟨q,o,rfl⟩:∃q o,u=.slice q b.length o:=by
  rcases z.2 with⟨e,X⟩|⟨g,o,af,e,_⟩
  ·exact⟨none,0,by rw[e,X]⟩
  exact⟨_,_,e⟩
 have HU:=qab z;have HI:=qab ai;obtain⟨m,Q⟩:∃m:Lit×DataW Unit->List UInt8,Hid (m=(λe:Lit×DataW Unit=>(qaj 3 (qaG e.1).length++qaG e.1)++T e.2)):=⟨_,show _=_ from rfl⟩
 rw[<-Q.out]at x ⊢;have HL:=qab x;have aw:=qfh q b.length o;have ax:=qey q b.length o;have ay:=qg0 q b.length o;have az:=qhM q b.length o;have a0:=qgD q b.length o;have a1:=qjl q b.length o;go_enter func86,ntmps86
 go_wp2_with(first
  |(go_at_call 107;refine cH.mono ?_;rintro e w2 ⟨v2,rfl,B,ag⟩;obtain⟨o2,b2,S,n2,c2,rfl⟩:=B;have ac:Hid (Own w2 f (.slice S n2 c2) (bs++qaj 5 b.length)):=⟨o2,b2,_,_,_,rfl⟩;have aa:=qab ag))
 go_loopg[0,83,14] b.length (λg y ao a6 wr=>∃(k:Nat) (K:Option Addr) (N L:Nat),y=.slice K N L/\ao=.int .i64 k/\Hid (k+g=b.length)/\Hid (Own wr f (.slice K N L) ((bs++qaj 5 b.length)++(b.take k).flatMap m))/\Hid (Below f W wr))
 case atStart=>exact⟨0,S,n2,c2,rfl,rfl,by show _=_;omega,by simpa using ac,aa⟩
 case round =>
  obtain⟨k,K,N,L,rfl,rfl,C,I,H⟩:=hrel
  cases gk with
  |zero =>
   have al:¬(k:Int)<b.length:=by have:=C.out;omega
   have A:Hid (b.take k=b):=by show _=_;exact List.take_of_length_le (by have:=C.out;omega)
   go_wp2;go_ret;have Y:=I.out;rw[A.out,List.append_assoc]at Y;exact⟨_,rfl,Y,H.out⟩
  |succ g =>
   have aj:k<b.length:=by have:=C.out;omega
   have al:(k:Int)<b.length:=by omega
   have J:=HU.out.same (V':=wr) (G:=F) (λ_ h=>h) (λj hj=>H.out.block j (hF j hj));obtain⟨q0,rfl⟩:∃q0,q=some ⟨q0,0,none⟩:=by
    rcases J.2 with⟨_,e⟩|⟨g,ap,af,e,_⟩
    ·omega
    injection e with e1 X e3;exact⟨g,e1⟩
   obtain⟨⟨D,d⟩,Z⟩:∃d,b[k]?=some d:=⟨b[k],List.getElem?_eq_getElem aj⟩
   obtain⟨l,r,w,rfl,am,an,hI⟩:=HI.out k D d Z;have aq:wr.cell? ⟨q0,k*2,none⟩=some (.string ⟨l.toArray⟩):=by
    have:=J.cell (2*k) _ am;have e:(⟨q0,0,none⟩:Addr).add (2*k)=⟨q0,k*2,none⟩:=by by_cases h:2*k=0<;>simp only[Addr.add,h,Nat.zero_add,Nat.mul_comm k 2,if_true,if_false]
    rwa[e]at this
   have ar:wr.cell? ⟨q0,k*2+1,none⟩=some (.iface r w):=by
    have:=J.cell (2*k+1) _ an;have e:(⟨q0,0,none⟩:Addr).add (2*k+1)=⟨q0,k*2+1,none⟩:=by simp[Addr.add,Nat.mul_comm]
    rwa[e]at this
   have A:Hid ((b.take (k+1)).flatMap m=(b.take k).flatMap m++((qaj 3 l.length++l)++T d)):=by
    show _=_;rw[List.take_add_one,Z,Q.out];simp[qaG]
   have E:Hid (((bs++qaj 5 b.length)++(b.take k).flatMap m).length+((qaj 3 l.length++l)++T d).length<=999999999):=by
    show _<=_;have h1:=HL.out;have B:(b.flatMap m).length=((b.take (k+1)).flatMap m).length+((b.drop (k+1)).flatMap m).length:=by
     rw[<-List.length_append,<-List.flatMap_append,List.take_append_drop]
    rw[A.out]at B;simp only[List.length_append]at h1 B ⊢;omega
   have HV:Hid (Below f W (wr.alloc (.cells #[.string ⟨l.toArray⟩,.iface r w] 198))):=H.out.trans ((Below.refl f wr).alloc I.out.2.1 _);have cT:=qrU _ f wr.heap.size _ _ l (by have:=E.out;omega) (by have:=E.out;simp only[List.length_append]at this;omega) (qjL I.out (.cells #[.string ⟨l.toArray⟩,.iface r w] 198));have R:Hid ((wr.alloc (.cells #[.string ⟨l.toArray⟩,.iface r w] 198)).heap[wr.heap.size]?=some (.cells #[.string ⟨l.toArray⟩,.iface r w] 198)):=qac _ _;have HJ:=qab hI
   go_wp2_with(first
    |(go_at_call 108;refine cT.mono ?_;rintro e w4 ⟨v4,rfl,h4,M⟩;obtain⟨o4,b4,a4,n4,c4,rfl⟩:=h4;have ad:Hid (Own w4 f (.slice a4 n4 c4) (((bs++qaj 5 b.length)++(b.take k).flatMap m)++(qaj 3 l.length++l))):=⟨o4,b4,_,_,_,rfl⟩;have P:=qab (HV.out.trans M.1);have au:=qaa (M.2.trans R.out) 0;have av:=qaa (M.2.trans R.out) 1)
    |(go_at_call 86;refine(HJ.out w4 _ _ P.out ad.out (by have:=E.out;simp only[List.length_append]at this ⊢;omega)).mono ?_;rintro e w5 ⟨v5,rfl,h5,ah⟩;obtain⟨o5,b5,U,n5,V,rfl⟩:=h5;have ae:Hid (Own w5 f (.slice U n5 V) ((((bs++qaj 5 b.length)++(b.take k).flatMap m)++(qaj 3 l.length++l))++T d)):=⟨o5,b5,_,_,_,rfl⟩;have ab:=qab (P.out.trans ah)))
   go_roundg g
   case measure=>omega
   case rel=>exact⟨k+1,U,n5,V,rfl,by go_num,by show _=_;have:=C.out;omega,by show Own _ _ _ _;rw[A.out,<-List.append_assoc,<-List.append_assoc];exact ae.out,ab⟩
theorem qwD(T:DataW Unit->List UInt8)(W:World)(f:Nat)(v u:Value)(F:Nat->Prop)(hF:∀k,F k->k<f)(bs:List UInt8)(b:List (Lit×DataW Unit))(M:List Value)(Z:bs.length+((qbo b.length)++b.flatMap (λe:Lit×DataW Unit=>(qa1 (qaG e.1).length++qaG e.1)++T e.2)).length<=999999999)(hn:b.length<=999999999)(x:qb7 W 198 2 F u b.length M)(ak:∀(i:Nat) (B:Lit) (d:DataW Unit),b[i]?=some (B,d)->∃l t y,B=.string l/\M[2*i]?=some (.string ⟨l.toArray⟩)/\M[2*i+1]?=some (.iface t y)/\qcc W f (.iface t y) (T d))(h:Own W f v bs):Calls prog 87 #[v,.iface 196 u] W λe Q=>∃n,e=.returned n/\Own Q f n (bs++(qbo b.length++b.flatMap (λe:Lit×DataW Unit=>(qa1 (qaG e.1).length++qaG e.1)++T e.2)))/\Below f W Q:=by
 have am:bs.length<=999999999:=by omega
 obtain⟨af,aq,ag,rfl⟩:=h.2.2;have cH:=qnT W f (.slice af aq ag) bs b.length (by omega) am h;obtain⟨q,o,rfl⟩:∃q o,u=.slice q b.length o:=by
  rcases x.2 with⟨e,V⟩|⟨g,o,ah,e,_⟩
  ·exact⟨none,0,by rw[e,V]⟩
  exact⟨_,_,e⟩
 have HU:=qab x;have HI:=qab ak;obtain⟨m,O⟩:∃m:Lit×DataW Unit->List UInt8,Hid (m=(λe:Lit×DataW Unit=>(qa1 (qaG e.1).length++qaG e.1)++T e.2)):=⟨_,show _=_ from rfl⟩
 rw[<-O.out]at Z ⊢;have HL:=qab Z;have az:=qfh q b.length o;have a0:=qey q b.length o;have a1:=qg0 q b.length o;have a6:=qhM q b.length o;have a7:=qgD q b.length o;have a8:=qjl q b.length o;go_enter func87,ntmps87
 go_wp2_with(first
  |(go_at_call 113;refine cH.mono ?_;rintro e w2 ⟨v2,rfl,w,ai⟩;obtain⟨o2,b2,R,a,c2,rfl⟩:=w;have ac:Hid (Own w2 f (.slice R a c2) (bs++qbo b.length)):=⟨o2,b2,_,_,_,rfl⟩;have aa:=qab ai))
 go_loopg[0,83,14] b.length (λg y ar a9 wr=>∃(k:Nat) (I:Option Addr) (L J:Nat),y=.slice I L J/\ar=.int .i64 k/\Hid (k+g=b.length)/\Hid (Own wr f (.slice I L J) ((bs++qbo b.length)++(b.take k).flatMap m))/\Hid (Below f W wr))
 case atStart=>exact⟨0,R,a,c2,rfl,rfl,by show _=_;omega,by simpa using ac,aa⟩
 case round =>
  obtain⟨k,I,L,J,rfl,rfl,A,E,D⟩:=hrel
  cases gk with
  |zero =>
   have an:¬(k:Int)<b.length:=by have:=A.out;omega
   have s:Hid (b.take k=b):=by show _=_;exact List.take_of_length_le (by have:=A.out;omega)
   go_wp2;go_ret;have X:=E.out;rw[s.out,List.append_assoc]at X;exact⟨_,rfl,X,D.out⟩
  |succ g =>
   have al:k<b.length:=by have:=A.out;omega
   have an:(k:Int)<b.length:=by omega
   have H:=HU.out.same (V':=wr) (G:=F) (λ_ h=>h) (λj hj=>D.out.block j (hF j hj));obtain⟨q0,rfl⟩:∃q0,q=some ⟨q0,0,none⟩:=by
    rcases H.2 with⟨_,e⟩|⟨g,au,ah,e,_⟩
    ·omega
    injection e with e1 V e3;exact⟨g,e1⟩
   obtain⟨⟨B,d⟩,Y⟩:∃d,b[k]?=some d:=⟨b[k],List.getElem?_eq_getElem al⟩
   obtain⟨l,p,r,rfl,ao,ap,hI⟩:=HI.out k B d Y;have av:wr.cell? ⟨q0,k*2,none⟩=some (.string ⟨l.toArray⟩):=by
    have:=H.cell (2*k) _ ao;have e:(⟨q0,0,none⟩:Addr).add (2*k)=⟨q0,k*2,none⟩:=by by_cases h:2*k=0<;>simp only[Addr.add,h,Nat.zero_add,Nat.mul_comm k 2,if_true,if_false]
    rwa[e]at this
   have aw:wr.cell? ⟨q0,k*2+1,none⟩=some (.iface p r):=by
    have:=H.cell (2*k+1) _ ap;have e:(⟨q0,0,none⟩:Addr).add (2*k+1)=⟨q0,k*2+1,none⟩:=by simp[Addr.add,Nat.mul_comm]
    rwa[e]at this
   have s:Hid ((b.take (k+1)).flatMap m=(b.take k).flatMap m++((qa1 l.length++l)++T d)):=by
    show _=_;rw[List.take_add_one,Y,O.out];simp[qaG]
   have C:Hid (((bs++qbo b.length)++(b.take k).flatMap m).length+((qa1 l.length++l)++T d).length<=999999999):=by
    show _<=_;have h1:=HL.out;have w:(b.flatMap m).length=((b.take (k+1)).flatMap m).length+((b.drop (k+1)).flatMap m).length:=by
     rw[<-List.length_append,<-List.flatMap_append,List.take_append_drop]
    rw[s.out]at w;simp only[List.length_append]at h1 w ⊢;omega
   have HV:Hid (Below f W (wr.alloc (.cells #[.string ⟨l.toArray⟩,.iface p r] 198))):=D.out.trans ((Below.refl f wr).alloc E.out.2.1 _);have cT:=qrx _ f wr.heap.size _ _ l (by have:=C.out;omega) (by have:=C.out;simp only[List.length_append]at this;omega) (qjL E.out (.cells #[.string ⟨l.toArray⟩,.iface p r] 198));have P:Hid ((wr.alloc (.cells #[.string ⟨l.toArray⟩,.iface p r] 198)).heap[wr.heap.size]?=some (.cells #[.string ⟨l.toArray⟩,.iface p r] 198)):=qac _ _;have HJ:=qab hI
   go_wp2_with(first
    |(go_at_call 111;refine cT.mono ?_;rintro e z ⟨v4,rfl,h4,K⟩;obtain⟨o4,b4,a4,n4,c4,rfl⟩:=h4;have ad:Hid (Own z f (.slice a4 n4 c4) (((bs++qbo b.length)++(b.take k).flatMap m)++(qa1 l.length++l))):=⟨o4,b4,_,_,_,rfl⟩;have N:=qab (HV.out.trans K.1);have ax:=qaa (K.2.trans P.out) 0;have ay:=qaa (K.2.trans P.out) 1)
    |(go_at_call 87;refine(HJ.out z _ _ N.out ad.out (by have:=C.out;simp only[List.length_append]at this ⊢;omega)).mono ?_;rintro e w5 ⟨v5,rfl,h5,aj⟩;obtain⟨o5,b5,S,c,U,rfl⟩:=h5;have ae:Hid (Own w5 f (.slice S c U) ((((bs++qbo b.length)++(b.take k).flatMap m)++(qa1 l.length++l))++T d)):=⟨o5,b5,_,_,_,rfl⟩;have ab:=qab (N.out.trans aj)))
   go_roundg g
   case measure=>omega
   case rel=>exact⟨k+1,S,c,U,rfl,by go_num,by show _=_;have:=A.out;omega,by show Own _ _ _ _;rw[s.out,<-List.append_assoc,<-List.append_assoc];exact ae.out,ab⟩

def wrF(hB hL hM hT:Nat->List UInt8)(nt:Bool->List UInt8)(no:List UInt8)(nm:Int->List UInt8):Nat->DataW Unit->List UInt8
 |0,_=>[]
 |k+1,d=>match d with
  |.nil=>no
  |.lit (.bool b)=>nt b
  |.lit (.int .i64 z)=>nm z
  |.lit (.string l)=>hT l.length++l
  |.ptr (.lit (.string l))=>hB l.length++l
  |.agg ds=>hL ds.length++ds.flatMap (wrF hB hL hM hT nt no nm k)
  |.map es=>hM es.length++es.flatMap λe=>(hT (qaG e.1).length++qaG e.1)++wrF hB hL hM hT nt no nm k e.2
  |_=>[]
def qqq(b:Bool):List UInt8:=bif b then qaj 7 21 else qaj 7 20
def qr2(b:Bool):List UInt8:=bif b then[195]else[194]
def qbc:Nat->DataW Unit->List UInt8:=wrF (qaj 2) (qaj 4) (qaj 5) (qaj 3) qqq (qaj 7 22) qfm
def qdn:Nat->DataW Unit->List UInt8:=wrF qbu qbp qbo qa1 qr2 [192] qeW
theorem qcY{α:Type}(f:α->List UInt8):∀(l:List α),(∀a,a∈l->1<=(f a).length)->l.length<=(l.flatMap f).length
 |[],_=>Nat.zero_le _
 |a::l,h=>by
  have d:=h a (List.mem_cons_self ..);have e:=qcY f l λb c=>h b (List.mem_cons_of_mem _ c);rw[List.flatMap_cons,List.length_append,List.length_cons];omega
theorem qb0(s x:Nat):1<=(qaj s x).length:=by
 unfold qaj
 repeat' split
 all_goals simp
theorem qqf(z:Int):1<=(qfm z).length:=by
 unfold qfm;split<;>exact qb0 _ _
theorem qip(x:Nat):1<=(qa1 x).length:=by
 unfold qa1
 repeat' split
 all_goals simp
theorem qom(x:Nat):1<=(qbu x).length:=by
 unfold qbu
 repeat' split
 all_goals simp
theorem qo4(x:Nat):1<=(qbp x).length:=by
 unfold qbp
 repeat' split
 all_goals simp
theorem qog(x:Nat):1<=(qbo x).length:=by
 unfold qbo
 repeat' split
 all_goals simp
theorem qrW(z:Int):1<=(qeW z).length:=by
 unfold qeW qbs qbm
 repeat' split
 all_goals simp
theorem qrV{hB hL hM hT:Nat->List UInt8}{nt:Bool->List UInt8}{no:List UInt8}{nm:Int->List UInt8}(a:∀x,1<=(hB x).length)(c:∀x,1<=(hL x).length)(e:∀x,1<=(hM x).length)(f:∀x,1<=(hT x).length)(j:∀b,1<=(nt b).length)(i:1<=no.length)(g:∀z,1<=(nm z).length):∀{k:Nat} {v:Value} {d:DataW Unit},qai k V F v d->1<=(wrF hB hL hM hT nt no nm k d).length
 |0,_,_,h=>h.elim
 |k+1,v,d,h=>by
  unfold qai at h;unfold wrF;split at h
  ·exact i
  ·exact j _
  ·exact g _
  ·rw[List.length_append];exact Nat.le_trans (f _) (Nat.le_add_right ..)
  ·rw[List.length_append];exact Nat.le_trans (a _) (Nat.le_add_right ..)
  ·rw[List.length_append];exact Nat.le_trans (c _) (Nat.le_add_right ..)
  ·rw[List.length_append];exact Nat.le_trans (e _) (Nat.le_add_right ..)
  exact h.elim
theorem qpu(h:qai k V F v d):1<=(qbc k d).length:=qrV (qb0 2) (qb0 4) (qb0 5) (qb0 3) (λb=>by cases b;exact qb0 7 20;exact qb0 7 21) (qb0 _ _) qqf h
theorem qn7:∀(k:Nat) (W:World) (c:Nat) (F:Nat->Prop) (x:Value) (d:DataW Unit),(∀j,F j->j<c)->qai k W F x d->qcd W c x (qbc k d)
 |0,_,_,_,_,_,_,h=>h.elim
 |k+1,W0,c,F,x,d,hF,h0=>by
  intro W v g I n B;have h:=h0.same (λ_ h=>h) (λj K=>I.block j (hF j K));have o:g.length<=999999999:=by omega
  have D:∀y a,qai k W F y a->qcd W c y (qbc k a):=λy a L=>qn7 k W c F y a hF L;unfold qai at h;split at h
  ·subst h;exact qlz W c v g o n
  ·rename_i b
   subst h;cases b
   ·exact qgB W c v g o n
   exact qh4 W c v g o n
  ·obtain⟨rfl,f,m⟩:=h;exact qqh W c v g _ f m o n
  ·rename_i l
   subst h;have e:(qbc (k+1) (.lit (.string l))).length=_:=List.length_append;exact qsZ W c v g l o (by omega) n
  ·rename_i l
   obtain⟨u,rfl,p⟩:=h;have e:(qbc (k+1) (.ptr (.lit (.string l)))).length=_:=List.length_append;exact qrs W c v u F hF g l o (by omega) p n
  ·rename_i ds
   obtain⟨u,r,rfl,p,s⟩:=h;have O:r.length=ds.length:=by have:=p.1;omega
   have at_:∀i,i<ds.length->∃x a,r[i]?=some x/\ds[i]?=some a/\qai k W F x a:=λi q =>
    ⟨_,_,List.getElem?_eq_getElem (by omega),List.getElem?_eq_getElem q,s i _ _ (List.getElem?_eq_getElem (by omega)) (List.getElem?_eq_getElem q)⟩
   have J:=qcY (qbc k) ds λa A=>by
    obtain⟨i,q,rfl⟩:=List.getElem_of_mem A;obtain⟨x,N,f,m,w⟩:=at_ i q;rw[List.getElem?_eq_getElem q]at m;injection m with m;rw[m];exact qpu w
   have e:(qbc (k+1) (.agg ds)).length=_+(ds.flatMap (qbc k)).length:=List.length_append;exact qsr (qbc k) W c v u F hF g ds r B (by omega) p (λi x a f m=>D x a (s i x a f m)) (λi x C=>by
    obtain⟨P,a,f,m,w⟩:=at_ i (by have:=ltL C;omega);rw[C]at f;injection f with f;rw[f];exact w.iface) n
  ·rename_i es
   obtain⟨u,r,rfl,p,s⟩:=h;have J:=qcY (λe:Lit×DataW Unit=>(qaj 3 (qaG e.1).length++qaG e.1)++qbc k e.2) es λa A=>by
    rw[List.length_append,List.length_append];have:=qb0 3 (qaG a.1).length;omega
   have e:(qbc (k+1) (.map es)).length=_+(es.flatMap λe:Lit×DataW Unit=>(qaj 3 (qaG e.1).length++qaG e.1)++qbc k e.2).length:=List.length_append;exact qvo (qbc k) W c v u F hF g es r B (by omega) p (λi M a f=>by
    obtain⟨l,x,E,G,H,z⟩:=s i M a f;obtain⟨t,y,rfl⟩:=z.iface;exact⟨l,t,y,E,G,H,D _ a z⟩) n
  exact h.elim
theorem qpP(h:qai k V F v d):1<=(qdn k d).length:=qrV qom qo4 qog qip (λb=>by cases b<;>exact Nat.le_refl _) (Nat.le_refl _) qrW h
theorem qn5:∀(k:Nat) (W:World) (c:Nat) (F:Nat->Prop) (x:Value) (d:DataW Unit),(∀j,F j->j<c)->qai k W F x d->qcc W c x (qdn k d)
 |0,_,_,_,_,_,_,h=>h.elim
 |k+1,W0,c,F,x,d,hF,h0=>by
  intro W v g I n B;have h:=h0.same (λ_ h=>h) (λj K=>I.block j (hF j K));have o:g.length<=999999999:=by omega
  have D:∀y a,qai k W F y a->qcc W c y (qdn k a):=λy a L=>qn5 k W c F y a hF L;unfold qai at h;split at h
  ·subst h;exact qmg W c v g o n
  ·rename_i b
   subst h;cases b
   ·exact qgz W c v g o n
   exact qhG W c v g o n
  ·obtain⟨rfl,f,m⟩:=h;exact qrX W c v g _ f m o n
  ·rename_i l
   subst h;have e:(qdn (k+1) (.lit (.string l))).length=_:=List.length_append;exact qsl W c v g l o (by omega) n
  ·rename_i l
   obtain⟨u,rfl,p⟩:=h;have e:(qdn (k+1) (.ptr (.lit (.string l)))).length=_:=List.length_append;exact qqC W c v u F hF g l o (by omega) p n
  ·rename_i ds
   obtain⟨u,r,rfl,p,s⟩:=h;have O:r.length=ds.length:=by have:=p.1;omega
   have at_:∀i,i<ds.length->∃x a,r[i]?=some x/\ds[i]?=some a/\qai k W F x a:=λi q =>
    ⟨_,_,List.getElem?_eq_getElem (by omega),List.getElem?_eq_getElem q,s i _ _ (List.getElem?_eq_getElem (by omega)) (List.getElem?_eq_getElem q)⟩
   have J:=qcY (qdn k) ds λa A=>by
    obtain⟨i,q,rfl⟩:=List.getElem_of_mem A;obtain⟨x,N,f,m,w⟩:=at_ i q;rw[List.getElem?_eq_getElem q]at m;injection m with m;rw[m];exact qpP w
   have e:(qdn (k+1) (.agg ds)).length=_+(ds.flatMap (qdn k)).length:=List.length_append;exact qti (qdn k) W c v u F hF g ds r B (by omega) p (λi x a f m=>D x a (s i x a f m)) (λi x C=>by
    obtain⟨P,a,f,m,w⟩:=at_ i (by have:=ltL C;omega);rw[C]at f;injection f with f;rw[f];exact w.iface) n
  ·rename_i es
   obtain⟨u,r,rfl,p,s⟩:=h;have J:=qcY (λe:Lit×DataW Unit=>(qa1 (qaG e.1).length++qaG e.1)++qdn k e.2) es λa A=>by
    rw[List.length_append,List.length_append];have:=qip (qaG a.1).length;omega
   have e:(qdn (k+1) (.map es)).length=_+(es.flatMap λe:Lit×DataW Unit=>(qa1 (qaG e.1).length++qaG e.1)++qdn k e.2).length:=List.length_append;exact qwD (qdn k) W c v u F hF g es r B (by omega) p (λi M a f=>by
    obtain⟨l,x,E,G,H,z⟩:=s i M a f;obtain⟨t,y,rfl⟩:=z.iface;exact⟨l,t,y,E,G,H,D _ a z⟩) n
  exact h.elim

theorem qeL(k:Nat)(W:World)(F:Nat->Prop)(x:Value)(d:DataW Unit)(hF:∀j,F j->j<W.heap.size)(h:qai k W F x d)(m:(qbc k d).length<=999999999):Calls prog 69 #[.int .i64 2,x] W λe a=>∃b,e=.returned b/\Own a W.heap.size b (qbc k d)/\Below W.heap.size W a:=by
 have c:=qn7 k W W.heap.size F x d hF h W _ [] bwR (qi1 W) (by simpa using m);obtain⟨t,y,rfl⟩:=h.iface;go_enter func69,ntmps69
 go_wp2_with(first
  |(go_at_call 86;refine c.mono ?_;rintro e r ⟨q,rfl,f,l⟩;obtain⟨g,i,n,p,o,rfl⟩:=f))
 go_ret;exact⟨_,rfl,⟨g,i,_,_,_,rfl⟩,l⟩
theorem qjv(k:Nat)(W:World)(F:Nat->Prop)(x:Value)(d:DataW Unit)(hF:∀j,F j->j<W.heap.size)(h:qai k W F x d)(m:(qdn k d).length<=999999999):Calls prog 69 #[.int .i64 3,x] W λe a=>∃b,e=.returned b/\Own a W.heap.size b (qdn k d)/\Below W.heap.size W a:=by
 have c:=qn5 k W W.heap.size F x d hF h W _ [] bwR (qi1 W) (by simpa using m);obtain⟨t,y,rfl⟩:=h.iface;go_enter func69,ntmps69
 go_wp2_with(first
  |(go_at_call 87;refine c.mono ?_;rintro e r ⟨q,rfl,f,l⟩;obtain⟨g,i,n,p,o,rfl⟩:=f))
 go_ret;exact⟨_,rfl,⟨g,i,_,_,_,rfl⟩,l⟩

theorem qfj(W:World)(b:Nat)(v:Value)(bs:List UInt8)(s:bs.length<=999999999)(h:Own W b v bs):Calls prog 125 #[v,.bool true] W λe g=>∃f,e=.returned f/\Own g b f (bs++[116,114,117,101])/\Below b W g:=by
 obtain⟨r,l,o,p,q⟩:=info_parts Tryz.infoU8;obtain⟨a,n,c,rfl⟩:=h.2.2;have d:=qab h;have i:(⟨([116,114,117,101]:List UInt8).toArray⟩:ByteArray).size=4:=rfl;go_enter func125,ntmps125
 go_wp2_with(first
  |(at_builtin;refine wpList_append_own_string _ rfl _ _ 35 9 rfl b 5 r underlying35 underlying9 l o p q _ _ _ rfl d.out.1 ⟨[116,114,117,101].toArray⟩ rfl (by rw[i];unfold maxLen;omega) (by rw[i];omega) d.out.2.1 ?_;intro f u m k t;have j:=qab (qaU d.out m k)))
 go_ret;exact⟨_,rfl,j.out⟩
theorem qeS(W:World)(b:Nat)(v:Value)(bs:List UInt8)(s:bs.length<=999999999)(h:Own W b v bs):Calls prog 125 #[v,.bool false] W λe g=>∃f,e=.returned f/\Own g b f (bs++[102,97,108,115,101])/\Below b W g:=by
 obtain⟨r,l,o,p,q⟩:=info_parts Tryz.infoU8;obtain⟨a,n,c,rfl⟩:=h.2.2;have d:=qab h;have i:(⟨([102,97,108,115,101]:List UInt8).toArray⟩:ByteArray).size=5:=rfl;go_enter func125,ntmps125
 go_wp2_with(first
  |(at_builtin;refine wpList_append_own_string _ rfl _ _ 35 9 rfl b 5 r underlying35 underlying9 l o p q _ _ _ rfl d.out.1 ⟨[102,97,108,115,101].toArray⟩ rfl (by rw[i];unfold maxLen;omega) (by rw[i];omega) d.out.2.1 ?_;intro f u m k t;have j:=qab (qaU d.out m k)))
 go_ret;exact⟨_,rfl,j.out⟩
theorem qg8(W:World)(b:Nat)(v:Value)(bs:List UInt8)(m:bs.length<=999999999)(h:Own W b v bs):Calls prog 102 #[v,.bool true] W λe d=>∃f,e=.returned f/\Own d b f (bs++[116,114,117,101])/\Below b W d:=by
 have g:=qfj W b v bs m h;obtain⟨a,n,c,rfl⟩:=h.2.2;go_enter func102,ntmps102
 go_wp2_with(first
  |(go_at_call 125;refine g.mono ?_;rintro e s ⟨r,rfl,i,l⟩;obtain⟨j,k,o,q,p,rfl⟩:=i))
 go_ret;exact⟨_,rfl,⟨j,k,_,_,_,rfl⟩,l⟩
theorem qfL(W:World)(b:Nat)(v:Value)(bs:List UInt8)(m:bs.length<=999999999)(h:Own W b v bs):Calls prog 102 #[v,.bool false] W λe d=>∃f,e=.returned f/\Own d b f (bs++[102,97,108,115,101])/\Below b W d:=by
 have g:=qeS W b v bs m h;obtain⟨a,n,c,rfl⟩:=h.2.2;go_enter func102,ntmps102
 go_wp2_with(first
  |(go_at_call 125;refine g.mono ?_;rintro e s ⟨r,rfl,i,l⟩;obtain⟨j,k,o,q,p,rfl⟩:=i))
 go_ret;exact⟨_,rfl,⟨j,k,_,_,_,rfl⟩,l⟩
theorem qms(W:World)(b:Nat)(v:Value)(bs:List UInt8)(s:bs.length<=999999999)(h:Own W b v bs):Calls prog 85 #[v,.iface 164 (.agg #[])] W λe g=>∃f,e=.returned f/\Own g b f (bs++[110,117,108,108])/\Below b W g:=by
 obtain⟨r,l,o,p,q⟩:=info_parts Tryz.infoU8;obtain⟨a,n,c,rfl⟩:=h.2.2;have d:=qab h;have u:=qcD;have w:=qct;have x:=qde;have y:=qcV;have z:=qdv;have i:(⟨([110,117,108,108]:List UInt8).toArray⟩:ByteArray).size=4:=rfl;go_enter func85,ntmps85
 go_wp2_with(first
  |(at_builtin;refine wpList_append_own_string _ rfl _ _ 35 9 rfl b 5 r underlying35 underlying9 l o p q _ _ _ rfl d.out.1 ⟨[110,117,108,108].toArray⟩ rfl (by rw[i];unfold maxLen;omega) (by rw[i];omega) d.out.2.1 ?_;intro f A m k t;have j:=qab (qaU d.out m k)))
 go_ret;exact⟨_,rfl,j.out⟩
theorem qh2(W:World)(b:Nat)(v:Value)(bs:List UInt8)(m:bs.length<=999999999)(h:Own W b v bs):Calls prog 85 #[v,.iface 217 (.bool true)] W λe d=>∃f,e=.returned f/\Own d b f (bs++[116,114,117,101])/\Below b W d:=by
 have g:=qg8 W b v bs m h;obtain⟨a,n,c,rfl⟩:=h.2.2;have r:=qbA true;go_enter func85,ntmps85
 go_wp2_with(first
  |(go_at_call 102;refine g.mono ?_;rintro e t ⟨s,rfl,i,l⟩;obtain⟨j,k,o,q,p,rfl⟩:=i))
 go_ret;exact⟨_,rfl,⟨j,k,_,_,_,rfl⟩,l⟩
theorem qgI(W:World)(b:Nat)(v:Value)(bs:List UInt8)(m:bs.length<=999999999)(h:Own W b v bs):Calls prog 85 #[v,.iface 217 (.bool false)] W λe d=>∃f,e=.returned f/\Own d b f (bs++[102,97,108,115,101])/\Below b W d:=by
 have g:=qfL W b v bs m h;obtain⟨a,n,c,rfl⟩:=h.2.2;have r:=qbA false;go_enter func85,ntmps85
 go_wp2_with(first
  |(go_at_call 102;refine g.mono ?_;rintro e t ⟨s,rfl,i,l⟩;obtain⟨j,k,o,q,p,rfl⟩:=i))
 go_ret;exact⟨_,rfl,⟨j,k,_,_,_,rfl⟩,l⟩

def qeu(x:Nat):UInt8:=[48,49,50,51,52,53,54,55,56,57,97,98,99,100,101,102].getD x 0
def qjF(r:Nat):List UInt8:=if r=34\/r=92 then[92,UInt8.ofNat r]else if r<32 then[92,117,48,48,qeu (r/16),qeu (r%16)]else qbN r
def qd0:Nat->List UInt8->List UInt8
 |0,_=>[]
 |_+1,[]=>[]
 |g+1,b::t=>qjF (decodeL (b::t)).1++qd0 g ((b::t).drop (decodeL (b::t)).2)
def jsT(l:List UInt8):List UInt8:=[34]++qd0 l.length l++[34]
theorem qgx{b:Nat}(h:Own W b v bs)(c:Below W.heap.size W W'):Own W' b v bs:=by
 refine⟨⟨h.1.1,?_⟩,Nat.le_trans h.2.1 c.size,h.2.2⟩;rcases h.1.2 with a|⟨g,e,f,a,i,d,j⟩
 ·exact .inl a
 exact .inr ⟨g,e,f,a,i,(c.block g (ltA d)).trans d,j⟩
theorem qle(g:Nat):qd0 g []=[]:=by cases g<;>rfl
def KpU(W V:World):Prop:=∀(k:Nat) (cs:Array Value) (t:TypeId) (fr:Nat×Nat),W.heap[k]?=some (.cells cs t fr)->t≠5->V.heap[k]?=some (.cells cs t fr)
theorem KpU.refl(W:World):KpU W W:=by intro k cs t a h _;exact h
theorem KpU.trans{A B C:World}(h:KpU A B)(g:KpU B C):KpU A C:=by intro k cs t a c b;exact g k cs t a (h k cs t a c b) b
theorem qeK(W:World)(o:Obj):KpU W (W.alloc o):=by intro k cs t b a _;exact(Below.heap_alloc _ _ _ (ltA a)).trans a
theorem qe8{xs:List Value}(j:W.ownsRow base 5 1 v n xs)(i:W.grownBy V v.ownBlock):KpU W V:=by
 intro k cs t m d h;refine(i.block k (ltA d) (λe=>?_)).trans d;rcases j.2 with⟨b,_⟩|⟨g,l,c,b,_,a,_⟩
 ·rw[b]at e;cases e
 rw[b]at e;injection e with e;have f:k=g:=e;rw[<-f,d]at a;injection a with a;injection a with _ a _;exact h a
structure qiy(base:Nat)(W:World)(N:Nat)(s:ByteArray)(i:Nat)(v:Value)(cur:List UInt8)(V:World):Prop where
 own:Own V base v cur
 it:V.heap[N]?=some (.stringIter s i)
 below:Below base W V
 lo:base<=N
 kp:KpU W V
theorem qiy.ne(h:qiy base W N s i v cur V):some N≠v.ownBlock:=by
 intro e;rcases h.own.1.2 with⟨a,_⟩|⟨g,f,c,a,_,b,_⟩
 ·rw[a]at e;cases e
 rw[a]at e;injection e with e;have d:N=g:=e;rw[<-d,h.it]at b;cases b
theorem qiy.app{o:Obj}(h:qiy base W N s i v cur V)(d:V'.ownsRow base 5 1 v' (cur.length+l.length) (cur.map qax++l.map qax))(a:(V.alloc o).grownBy V' v.ownBlock):qiy base W N s i v' (cur++l) V':=by
 have b:=qa3 ((Below.refl base V).alloc h.own.2.1 _) (h.own.1.alloc _) a (by have:=h.own.2.1;simp;omega);have f:=ltA h.it;refine⟨⟨by rw[List.length_append,List.map_append];exact d,Nat.le_trans h.own.2.1 b.size,?_⟩,(a.block N (by simp;omega) h.ne).trans ((Below.heap_alloc _ _ _ f).trans h.it),h.below.trans b,h.lo,h.kp.trans ((qeK V o).trans (qe8 (h.own.1.alloc o) a))⟩;rcases d.2 with⟨e,_⟩|⟨g,j,c,e,_⟩
 ·exact⟨none,0,0,e⟩
 exact⟨_,_,_,e⟩
theorem qiy.appS(h:qiy base W N s i v cur V)(d:V'.ownsRow base 5 1 v' (cur.length+(⟨l.toArray⟩:ByteArray).size) (cur.map qax++strCells ⟨l.toArray⟩))(a:V.grownBy V' v.ownBlock):qiy base W N s i v' (cur++l) V':=by
 obtain⟨b,c⟩:=qaU h.own d a;exact⟨b,(a.block N (ltA h.it) h.ne).trans h.it,h.below.trans c,h.lo,h.kp.trans (qe8 h.own.1 a)⟩
theorem qiy.next(h:qiy base W N s i v cur V)(j:Nat):qiy base W N s j v cur (V.putObj N (.stringIter s j)):=by
 have o:=ltA h.it;have q:=h.ne;refine⟨⟨⟨h.own.1.1,?_⟩,by simpa[World.putObj]using h.own.2.1,h.own.2.2⟩,by simp[World.putObj,o],qb9 h.below h.lo _,h.lo,?hkp⟩
 case hkp =>
  intro k cs t l r u;have b:=h.kp k cs t l r u;refine((grownBy_putObj' V N (.stringIter s j)).block k (ltA b) (λe=>?_)).trans b;injection e with e;rw[e,h.it]at b;cases b
 rcases h.own.1.2 with a|⟨g,f,c,a,m,d,n⟩
 ·exact .inl a
 refine .inr ⟨g,f,c,a,m,?_,n⟩;have p:g≠N:=by
  rintro rfl;exact q (by rw[a];rfl)
 exact((grownBy_putObj' V N (.stringIter s j)).block g (ltA d) (by simpa using p)).trans d
theorem qiy.drew(h:qiy base W N s i v cur V):qiy base W N s i v cur V.drew:=⟨h.own,h.it,h.below.drew,h.lo,h.kp⟩
theorem quB(x:Nat)(a:x<16)(V:World):(Instr.index 9 (.string ⟨#[48,49,50,51,52,53,54,55,56,57,97,98,99,100,101,102]⟩) (.int .i32 x)).run prog V=.ok (qax (qeu x)) V:=by
 have h:x=0\/x=1\/x=2\/x=3\/x=4\/x=5\/x=6\/x=7\/x=8\/x=9\/x=10\/x=11\/x=12\/x=13\/x=14\/x=15:=by omega
 rcases h with rfl|rfl|rfl|rfl|rfl|rfl|rfl|rfl|rfl|rfl|rfl|rfl|rfl|rfl|rfl|rfl<;>(show _=_;kernel_rfl)
theorem qvj(r:Nat)(a:r<32):bits .and .i32 (r:Int) 15=((r%16:Nat):Int):=by
 have h:r=0\/r=1\/r=2\/r=3\/r=4\/r=5\/r=6\/r=7\/r=8\/r=9\/r=10\/r=11\/r=12\/r=13\/r=14\/r=15\/r=16\/r=17\/r=18\/r=19\/r=20\/r=21\/r=22\/r=23\/r=24\/r=25\/r=26\/r=27\/r=28\/r=29\/r=30\/r=31:=by omega
 rcases h with rfl|rfl|rfl|rfl|rfl|rfl|rfl|rfl|rfl|rfl|rfl|rfl|rfl|rfl|rfl|rfl|rfl|rfl|rfl|rfl|rfl|rfl|rfl|rfl|rfl|rfl|rfl|rfl|rfl|rfl|rfl|rfl<;>(show _=_;kernel_rfl)
theorem qnr{P:Program}{ev:Operand->Value}(a:TypeId)(x y:Operand)(b:o.op=.index a x y){X Y:Value}(c:ev x=X)(d:ev y=Y)(h:(Instr.index a X Y).run P W=.ok v W):(execOp ev o).run P W=.ok (.value v) W:=by
 unfold execOp;simp only[b,c,d,Sem.run_bind,h,Result.andThen_ok];rfl
theorem qqQ(a b:UInt8)(V:World):(Instr.buildSlice 35 2 #[(0,qax a),(1,qax b)]).run prog V=.ok (.slice (some ⟨V.heap.size,0,none⟩) 2 2) (V.alloc (.cells #[qax a,qax b] 5)):=by kernel_rfl
theorem ql7{a:Act}{K:Act->World->Prop}{Q:Exit->Act->World->Prop}(x y:Operand)(b:o.op=.buildSlice 35 2 #[(0,x),(1,y)])(p q:UInt8)(c:a.eval x=qax p)(d:a.eval y=qax q)(h:K (a.put o.dst (.slice (some ⟨w.heap.size,0,none⟩) 2 2)) (w.alloc (.cells #[qax p,qax q] 5))):o.wp prog a w K Q:=by
 have e:(#[(0,x),(1,y)].map λ(i,y)=>(i,a.eval y))=#[((0:Nat),qax p),(1,qax q)]:=by simp[c,d]
 unfold Oper.wp execOp;simp only[b,Sem.run_bind,e,qqQ,Result.andThen_ok];exact h

theorem qvP(W:World)(f:W.cell? ⟨8,15,none⟩=some (.int .u8 4)):Calls prog 165 #[.int .u64 16] W λe a=>e=.returned (.int .i64 4)/\a=W:=by
 have b:IntKind.u64.wrap (-16)=18446744073709551600:=by kernel_rfl
 have c:bits .and .u64 16 18446744073709551600=16:=by kernel_rfl
 have d:IntKind.u64.wrap (16*285870213051353865)=4573923408821661840:=by kernel_rfl
 go_enter func165,ntmps165;go_wp2;go_ret;exact⟨rfl,rfl⟩
theorem qpd(W:World)(b:W.cell? ⟨8,15,none⟩=some (.int .u8 4)):Calls prog 162 #[.int .u64 16] W λe a=>e=.returned (.int .i64 4)/\a=W:=by
 have c:=qvP W b;go_enter func162,ntmps162
 go_wp2_with(first|(go_at_call 165;refine c.mono ?_;rintro e d ⟨rfl,rfl⟩))
 go_ret;exact⟨rfl,rfl⟩
theorem qsK(W:World):Calls prog 161 #[.int .i64 16] W λe a=>e=.returned (.bool true)/\a=W:=by
 have b:bits .and .i64 16 15=0:=by kernel_rfl
 go_enter func161,ntmps161;go_wp2;go_ret;exact⟨rfl,rfl⟩
def hxL(u:Nat):List UInt8:=if u<16 then[qeu u]else hxL (u/16)++[qeu (u%16)]
theorem qmK(h:u<16):hxL u=[qeu u]:=by rw[hxL,if_pos h]
theorem qr8(h:¬u<16):hxL u=hxL (u/16)++[qeu (u%16)]:=by rw[hxL,if_neg h]
theorem qmf:∀(k u:Nat),u<16^(k+1)->(hxL u).length<=k+1
 |0,u,h=>by rw[qmK (by simpa using h)];simp
 |k+1,u,h=>by
  by_cases a:u<16
  ·rw[qmK a];simp
  rw[qr8 a,List.length_append];have b:u/16<16^(k+1):=by
   rw[Nat.div_lt_iff_lt_mul (by omega)];rw[Nat.pow_succ]at h;exact h
  have:=qmf k (u/16) b;simp;omega
structure qsb(W:World)(tl:List UInt8)(V:World):Prop where
 below:Below W.heap.size W V
 arr:V.heap[W.heap.size]?=some (.cells ((List.replicate (65-tl.length) (0:UInt8)++tl).map qax).toArray 276)
 le:tl.length<=65

end
section
open Go.RowKit Go.Shelf
def q0k(c:Cfg)(A:Array Value)(w':World):Prop:=A.size=38/\A.all (·.oneCell')=true/\(qir c=0->qbD c.labels c.L=true/\∃a k cap,A=qcu (qaq c.labels.toNat (qcL c.labels.toNat c.L)) a k cap/\∃lo',PrB w' lo' (.slice a k cap) ((qcI c.pol.data.toList).map enS))
theorem qng(c:Cfg)(a:World)(h:¬qir c=0):q0k c qcU a:=⟨qbk,qdN,λe=>absurd e h⟩
def qyX(c:Cfg)(w:World)(e:Ending)(w':World):Prop:=∃A,e=.returned (.tuple #[.agg A,.int .i64 (qir c),.int .i64 (qoS c)])/\q0k c A w'/\Below w.heap.size w w'
def q0p(n:Nat)(s:ByteArray):Int:=qft n s.data.toList
def PoK(n:Nat)(s:ByteArray)(w:World)(a:Option Addr)(m cap:Nat)(w':World):Prop:=q0p n s=0->PrB w' w.heap.size (.slice a m cap) ((qcI s.data.toList).map enS)
theorem qoa(s:ByteArray)(n:Nat)(w:World)(h:qmF w):Calls prog 42 #[.string s,.int .i64 n] w λe c=>∃a m b,e=.returned (.tuple #[.slice a m b,.int .i64 (qft n s.data.toList),.int .i64 (qkn n s.data.toList)])/\Below w.heap.size w c/\PoK n s w a m b c:=by
 refine(qlN s n w h).mono ?_;rintro e c ⟨a,m,b,d,f,g⟩;exact⟨a,m,b,d,f,g⟩
theorem qlL(c:Cfg)(w:World)(y:qin w c)(U:qmF w):Calls prog 25 #[.agg c.arr] w (qyX c w):=by
 have Y:=qab y;have HG:=qab U;have HS:=qab c.size;have A:=qab (qwt w c);have hL:c.L.length<=maxLen:=by have:=y.eb;unfold maxLen;omega
 have af:c.B.length<=maxLen:=by have:=y.bb;unfold maxLen;omega
 have N:Calls prog 39 #[.agg c.arr] ((w.alloc (.cells c.arr 25)).alloc (.cells qcU 70)) λe w'=>e=.returned (.tuple #[.agg (roA c.labels c.L c.dflt c.clr),.int .i64 (roE c.labels c.L c.dflt c.clr)])/\Below ((w.alloc (.cells c.arr 25)).alloc (.cells qcU 70)).heap.size ((w.alloc (.cells c.arr 25)).alloc (.cells qcU 70)) w' :=
  qiC c.arr c.labels c.L c.ea c.ecap c.dflt c.clr rfl rfl rfl rfl hL _ (y.edges.below A.out.below)
 have F:(roA c.labels c.L c.dflt c.clr).size=37:=by unfold roA;split<;>exact qae _ _
 have R:(roA c.labels c.L c.dflt c.clr).all (·.oneCell')=true:=by unfold roA;split<;>exact qa8 _ _
 have k:=qab F;have p:=qab R;have v:Hid (qaI.size=(roA c.labels c.L c.dflt c.clr).size):=by show _=_;rw[F];exact qae _ _
 have K:Hid (roE c.labels c.L c.dflt c.clr=0->qbD c.labels c.L=true/\roA c.labels c.L c.dflt c.clr=qaq c.labels.toNat (qcL c.labels.toNat c.L)):=qxH;have G:Hid (¬roE c.labels c.L c.dflt c.clr=0->qir c=roE c.labels c.L c.dflt c.clr/\qoS c=0):=qzz;have J:Hid (roE c.labels c.L c.dflt c.clr=0->qir c=(if qeZ c.inn c.out c.depth c.bytes=false then 4 else if qaN c.B=false then 5 else qft c.labels.toNat c.pol.data.toList)/\qoS c=(if qeZ c.inn c.out c.depth c.bytes=false then 0 else if qaN c.B=false then 0 else qkn c.labels.toNat c.pol.data.toList)):=λh=>by
  refine⟨?_,?_⟩
  ·unfold qir;rw[if_neg (λz=>z h)]
  unfold qoS;rw[if_neg (λz=>z h)]
 clear F R y U;generalize roA c.labels c.L c.dflt c.clr=O at *;generalize roE c.labels c.L c.dflt c.clr=E0 at *;go_enter func25,ntmps25
 go_wp2_with(first
  |(refine qcn rfl rfl _ rfl (w.heap.size+1) ?hN ?_;case hN=>(simp only[World.size_alloc];done))
  |(refine wpList_load_row rfl 25 _ rfl _ rfl _ _ _ _ A.out.box underlying25 rfl (qaA HS.out) ?_)
  |fail)
 refine N.mono ?_;clear N;rintro e a ⟨rfl,P⟩;have M:=qab (A.out.step P);clear P A;have d:Hid (qwX w c (a.alloc (.cells O 67))):=M.out.step bwA;have W:Hid ((a.alloc (.cells O 67)).heap[a.heap.size]?=some (.cells O 67)):=qac _ _;by_cases E:E0=0
 ·subst E;obtain⟨V,S⟩:=K.out rfl;obtain⟨n,s⟩:=J.out rfl;have H:=qab S;have I:=qab V;have h6:(a.alloc (.cells O 67)).cell? ⟨w.heap.size,6,none⟩=some (.int .i64 c.inn):=d.out.cell 6;have h7:(a.alloc (.cells O 67)).cell? ⟨w.heap.size,7,none⟩=some (.int .i64 c.out):=d.out.cell 7;have h8:(a.alloc (.cells O 67)).cell? ⟨w.heap.size,8,none⟩=some (.int .i64 c.depth):=d.out.cell 8;have h9:(a.alloc (.cells O 67)).cell? ⟨w.heap.size,9,none⟩=some (.int .i64 c.bytes):=d.out.cell 9;have ai:(a.alloc (.cells O 67)).cell? ⟨w.heap.size,10,none⟩=some (.slice c.ba c.B.length c.bcap):=d.out.cell 10;have h3:(a.alloc (.cells O 67)).cell? ⟨w.heap.size,3,none⟩=some (.string c.pol):=d.out.cell 3;have h0:(a.alloc (.cells O 67)).cell? ⟨w.heap.size,0,none⟩=some (.int .i64 c.labels):=d.out.cell 0;have t:=λad=>qjW c.inn c.out c.depth c.bytes ad;clear K J G S V;cases l:qeZ c.inn c.out c.depth c.bytes
  ·have j:Hid (qir c=4):=by show _=_;rw[n,l];rfl
   have m:Hid (qoS c=0):=by show _=_;rw[s,l];rfl
   have o:Hid (¬qir c=0):=by show¬_;rw[j.out];decide
   rw[l]at t;clear n s l
   go_wp2_with(first
    |(go_at_call 40;refine(t _).mono ?_;rintro e u ⟨rfl,rfl⟩)
    |(refine qas rfl rfl _ rfl a.heap.size rfl ?_)
    |(refine wpList_store_row rfl 67 _ _ rfl a.heap.size O rfl rfl 67 qaI (qac a _) (qat k.out) v.out p.out ?_;rw[World.setRow_alloc_new])
    |(refine qal rfl 70 _ rfl _ rfl _ [] ?hl qdS ?_;case hl=>simp)
    |(refine wpList_store_row rfl 70 _ _ rfl (w.heap.size+1) qcU rfl rfl 70 qcU d.out.res (qbx qbk) rfl qdN ?_))
   refine bodyPost_ret (qbl results25 _ _ (w.heap.size+1) 70 qcU (0,0) _ rfl (setRow_heap _ _ qcU _ _ _ d.out.res) underlying70 rfl (qbx qbk) (.int .i64 4) (.int .i64 0) rfl rfl) rfl ⟨qcU,by rw[j.out,m.out],qng c _ o.out,qah d.out.below (by omega) _⟩
  rw[l]at t;have x:=qj9 c.ba c.bcap c.B af (a.alloc (.cells O 67)) (Y.out.ints.below d.out.below);cases r:qaN c.B
  ·have j:Hid (qir c=5):=by show _=_;rw[n,l,r];rfl
   have m:Hid (qoS c=0):=by show _=_;rw[s,l,r];rfl
   have o:Hid (¬qir c=0):=by show¬_;rw[j.out];decide
   rw[r]at x;clear n s l r
   go_wp2_with(first
    |(go_at_call 40;refine(t _).mono ?_;rintro e u ⟨rfl,rfl⟩)
    |(go_at_call 41;refine x.mono ?_;rintro e u ⟨rfl,rfl⟩)
    |(refine qas rfl rfl _ rfl a.heap.size rfl ?_)
    |(refine wpList_store_row rfl 67 _ _ rfl a.heap.size O rfl rfl 67 qaI (qac a _) (qat k.out) v.out p.out ?_;rw[World.setRow_alloc_new])
    |(refine qal rfl 70 _ rfl _ rfl _ [] ?hl qdS ?_;case hl=>simp)
    |(refine wpList_store_row rfl 70 _ _ rfl (w.heap.size+1) qcU rfl rfl 70 qcU d.out.res (qbx qbk) rfl qdN ?_))
   refine bodyPost_ret (qbl results25 _ _ (w.heap.size+1) 70 qcU (0,0) _ rfl (setRow_heap _ _ qcU _ _ _ d.out.res) underlying70 rfl (qbx qbk) (.int .i64 5) (.int .i64 0) rfl rfl) rfl ⟨qcU,by rw[j.out,m.out],qng c _ o.out,qah d.out.below (by omega) _⟩
  rw[r]at x;have D:=qoa c.pol c.labels.toNat (a.alloc (.cells O 67)) (HG.out.below d.out.below);rw[(qek I.out).1]at D;have j:Hid (qir c=qft c.labels.toNat c.pol.data.toList):=by show _=_;rw[n,l,r];rfl
  have m:Hid (qoS c=qkn c.labels.toNat c.pol.data.toList):=by show _=_;rw[s,l,r];rfl
  have b:Hid (qft c.labels.toNat c.pol.data.toList=0->qkn c.labels.toNat c.pol.data.toList=0):=λh=>by
   unfold qft at h;unfold qkn;split at h
   ·cases h
   next z=>rw[if_neg z]
  have Z:Hid (q0p c.labels.toNat c.pol=qft c.labels.toNat c.pol.data.toList):=rfl;generalize qft c.labels.toNat c.pol.data.toList=E1 at *;generalize qkn c.labels.toNat c.pol.data.toList=N1 at *;by_cases Q:E1=0
  ·subst Q;have ag:=b.out rfl;subst ag;have X:Hid (∀f i g,prog.built 70 [(0,.agg O),(1,.slice f i g)]=some (qcu O f i g)):=λf i g=>by rw[H.out];exact qpK _ _ _ _ _
   have ac:Hid (∀f i g,qcU.size=(qcu O f i g).size):=λf i g=>by rw[qcw k.out];exact qbk
   have ah:a.heap.size<(a.alloc (.cells O 67)).heap.size:=by simp
   go_wp2_with(first
    |(go_at_call 40;refine(t _).mono ?_;rintro e u ⟨rfl,rfl⟩)
    |(go_at_call 41;refine x.mono ?_;rintro e u ⟨rfl,rfl⟩)
    |(go_at_call 42;refine D.mono ?_;rintro e w4 ⟨f,i,g,rfl,C,T⟩;have ab:=qab T;have q:=qab (d.out.step C);have aa:=qab ((C.block _ ah).trans W.out))
    |(refine wpList_load_row rfl 67 _ rfl _ rfl _ _ _ _ aa.out underlying67 rfl (qat k.out) ?_)
    |(refine qal rfl 70 _ rfl _ rfl _ [(0,.agg O),(1,.slice f i g)] ?hl (X.out f i g) ?_;case hl=>simp[go_sem])
    |(refine wpList_store_row rfl 70 _ _ rfl (w.heap.size+1) (qcu O f i g) rfl rfl 70 qcU q.out.res (qbx (qcw k.out _ _ _)) (ac.out _ _ _) (qfq p.out _ _ _) ?_)
    |(refine qas rfl rfl _ rfl a.heap.size rfl ?_)
    |(refine wpList_store_row rfl 67 _ _ rfl a.heap.size O rfl rfl 67 qaI (qac a _) (qat k.out) v.out p.out ?_;rw[World.setRow_alloc_new]))
   refine bodyPost_ret (qbl results25 _ _ (w.heap.size+1) 70 (qcu O f i g) (0,0) _ rfl (setRow_heap _ _ qcU _ _ _ q.out.res) underlying70 rfl (qbx (qcw k.out _ _ _)) (.int .i64 0) (.int .i64 0) rfl rfl) rfl ⟨qcu O f i g,by rw[j.out,m.out],?_,qah q.out.below (by omega) _⟩;refine⟨qcw k.out _ _ _,qfq p.out _ _ _,λ_=>⟨I.out,f,i,g,by rw[H.out],?_⟩⟩;have hq:=ab.out Z.out;have aj:=ltA M.out.res;exact⟨_,hq.kept λae h1 _=>setRow_other _ (w.heap.size+1) ae _ (by rw[World.size_alloc]at h1;omega)⟩
  have o:Hid (¬qir c=0):=by show¬_;rw[j.out];exact Q
  go_wp2_with(first
   |(go_at_call 40;refine(t _).mono ?_;rintro e u ⟨rfl,rfl⟩)
   |(go_at_call 41;refine x.mono ?_;rintro e u ⟨rfl,rfl⟩)
   |(go_at_call 42;refine D.mono ?_;rintro e w4 ⟨f,i,g,rfl,C,T⟩;have q:=qab (d.out.step C))
   |(refine wpList_store_row rfl 70 _ _ rfl (w.heap.size+1) qcU rfl rfl 70 qcU q.out.res (qbx qbk) rfl qdN ?_)
   |(refine qas rfl rfl _ rfl a.heap.size rfl ?_)
   |(refine wpList_store_row rfl 67 _ _ rfl a.heap.size O rfl rfl 67 qaI (qac a _) (qat k.out) v.out p.out ?_;rw[World.setRow_alloc_new])
   |(refine qal rfl 70 _ rfl _ rfl _ [] ?hl qdS ?_;case hl=>simp)
   |(refine wpList_store_row rfl 70 _ _ rfl (w.heap.size+1) qcU rfl rfl 70 qcU d.out.res (qbx qbk) rfl qdN ?_))
  refine bodyPost_ret (qbl results25 _ _ (w.heap.size+1) 70 qcU (0,0) _ rfl (setRow_heap _ _ qcU _ _ _ q.out.res) underlying70 rfl (qbx qbk) (.int .i64 E1) (.int .i64 N1) rfl rfl) rfl ⟨qcU,by rw[j.out,m.out],qng c _ o.out,qah q.out.below (by omega) _⟩
 obtain⟨n,s⟩:=G.out E;have j:=qab n;have m:=qab s;have o:Hid (¬qir c=0):=by show¬_;rw[n];exact E
 go_wp2_with(first
  |(refine qas rfl rfl _ rfl a.heap.size rfl ?_)
  |(refine wpList_store_row rfl 67 _ _ rfl a.heap.size O rfl rfl 67 qaI (qac a _) (qat k.out) v.out p.out ?_;rw[World.setRow_alloc_new])
  |(refine qal rfl 70 _ rfl _ rfl _ [] ?hl qdS ?_;case hl=>simp)
  |(refine wpList_store_row rfl 70 _ _ rfl (w.heap.size+1) qcU rfl rfl 70 qcU d.out.res (qbx qbk) rfl qdN ?_))
 refine bodyPost_ret (qbl results25 _ _ (w.heap.size+1) 70 qcU (0,0) _ rfl (setRow_heap _ _ qcU _ _ _ d.out.res) underlying70 rfl (qbx qbk) (.int .i64 E0) (.int .i64 0) rfl rfl) rfl ⟨qcU,by rw[j.out,m.out],qng c _ o.out,qah d.out.below (by omega) _⟩

structure qzs(w:World)(c:Cfg)(N:Nat)(A:Array Value)(W:World):Prop where
 below:Below w.heap.size w W
 box:W.heap[w.heap.size]?=some (.cells c.arr 25)
 row:W.heap[N]?=some (.cells A 70)
theorem qzs.step{A:Array Value}(h:qzs w c N A W)(a:Below W.heap.size W W'):qzs w c N A W' :=
 ⟨h.below.trans (a.mono h.below.size),(a.block _ (ltA h.box)).trans h.box,(a.block _ (ltA h.row)).trans h.row⟩
theorem qqd(h:qb3 c=0):qft c.labels.toNat c.pol.data.toList=0:=by
 rw[<-(qlE c).1]at h;unfold qir at h;split at h
 ·next hh=>exact absurd h hh
 split at h
 ·cases h
 split at h
 ·cases h
 exact h

end
section
open Go.RowKit
theorem qdm.same{kt:TypeId}{m:Nat}{f:Lit->Option Nat}(h:qdm W kt m n f)(g:W'.heap[m]?=W.heap[m]?):qdm W' kt m n f:=by
 obtain⟨D,⟨b,a,c,d⟩,e⟩:=h;exact⟨D,⟨b,a,g.trans c,d⟩,e⟩
theorem qcx.rebase{W0 W1:World}{A:Nat}{q:Aut}{sts:List ((Nat->Nat)×Int×Int)}{sv:Value}{nf:Lit->Option Nat}{mn:Nat}{mf:Lit->Option Nat}(h:qcx W0 A q sts sv nf mn mf W)(b:W1.heap.size=W0.heap.size)(d:Below W1.heap.size W1 W')(f:qe0 W1 q.ra q.rs)(a:∀j,j=A\/j=q.lm\/j=q.tb\/j=q.nb\/j=q.mb\/sv.ownBlock=some j->W'.heap[j]?=W.heap[j]?):qcx W1 A q sts sv nf mn mf W':=by
 obtain⟨c,k,l⟩:=h.takes;have i:=qd9 (W':=W') h.states λg e=>a g (.inr (.inr (.inr (.inr (.inr e)))));exact{h with
  row:=(a A (.inl rfl)).trans h.row
  rules:=f
  below:=d
  letters:=h.letters.same (a _ (.inr (.inl rfl)))
  takes:=⟨c,(a _ (.inr (.inr (.inl rfl)))).trans k,l⟩
  states:=by rw[b];exact i
  numbers:=h.numbers.same (a _ (.inr (.inr (.inr (.inl rfl)))))
  moves:=h.moves.same (a _ (.inr (.inr (.inr (.inr (.inl rfl))))))
  high:=by rw[b];exact h.high}

end
section
theorem qqL{dflt:Int}(a:∃l:Nat,dflt=l/\l<n):∀(rs:List (List (Nat×List UInt8)×Int×Int)),(∀x∈rs,∃l:Nat,x.2.1=l/\l<n)->∀p,∃l:Nat,(lbF dflt rs p).1=l/\l<n
 |[],_,_=>a
 |x::rs,hr,p=>by
  rw[lbF];split
  ·exact hr x (List.mem_cons_self ..)
  exact qqL a rs (λy b=>hr y (List.mem_cons_of_mem _ b)) p

end
section
open Go.RowKit Go.Lib
def qcO(c:UInt8):Nat:=if c.toNat<128 then 1 else if c.toNat<194 then 0 else if c.toNat<224 then 2 else if c.toNat<240 then 3 else if c.toNat<245 then 4 else 0
def qeX(c:UInt8):Nat:=if c.toNat<194 then 0 else if c.toNat=224 then 160 else if c.toNat=240 then 144 else if c.toNat<245 then 128 else 0
def qgZ(c:UInt8):Nat:=if c.toNat<194 then 0 else if c.toNat=237 then 159 else if c.toNat=244 then 143 else if c.toNat<245 then 191 else 0
theorem qwR:(List.range 256).all (λx=>(let c:=UInt8.ofNat x;decide ((szU c=0↔qcO c=1)/\(szU c=1↔qcO c=0)/\(2<=qcO c->szU c=qcO c/\loU c=qeX c/\hiU c=qgZ c/\128<=qeX c)/\qcO c<=4)))=true:=by kernel_rfl
theorem qqY(c:UInt8):(szU c=0↔qcO c=1)/\(szU c=1↔qcO c=0)/\(2<=qcO c->szU c=qcO c/\loU c=qeX c/\hiU c=qgZ c/\128<=qeX c)/\qcO c<=4:=by
 have h:=List.all_eq_true.1 qwR c.toNat (List.mem_range.2 c.toNat_lt);have a:=of_decide_eq_true h;rw[UInt8.ofNat_toNat]at a;exact a
def qbH(c0:UInt8)(j:Nat)(c:UInt8):Bool:=(j==1&&(decide (c.toNat<qeX c0)||decide (qgZ c0<c.toNat)))||(decide (1<j)&&(decide (c.toNat<128)||decide (191<c.toNat)))
theorem qjf(a c:UInt8):qbH a 1 c=true↔(c.toNat<qeX a\/qgZ a<c.toNat):=by
 unfold qbH;simp
theorem qdK(a c:UInt8)(j:Nat)(d:1<j):qbH a j c=true↔(c.toNat<128\/191<c.toNat):=by
 unfold qbH;have b:(j==1)=false:=by simp;omega
 rw[b,decide_eq_true d];simp
theorem qke(a:UInt8)(l:List UInt8)(c:UInt8)(e:l.length+1<qcO a):qbC (a::l) c=if qbH a (l.length+1) c=true then 0 else if l.length+2=qcO a then 2 else 1:=by
 obtain⟨_,_,g,m⟩:=qqY a;obtain⟨f,j,k,n⟩:=g (by omega)
 match l,e with
 |[],e =>
  show qbC [a] c=if qbH a 1 c=true then 0 else if 2=qcO a then 2 else 1;simp only[qbC,f,j,k];by_cases b:c.toNat<qeX a\/qgZ a<c.toNat
  ·rw[if_pos b,if_pos ((qjf a c).2 b)]
  rw[if_neg b,if_neg (λh=>b ((qjf a c).1 h))];by_cases d:qcO a=2
  ·rw[if_pos d,if_pos d.symm]
  rw[if_neg d,if_neg (λh=>d h.symm)]
 |[b1],e =>
  show qbC [a,b1] c=if qbH a 2 c=true then 0 else if 3=qcO a then 2 else 1;simp only[qbC,f];by_cases b:c.toNat<128\/191<c.toNat
  ·rw[if_pos b,if_pos ((qdK a c 2 (by decide)).2 b)]
  rw[if_neg b,if_neg (λh=>b ((qdK a c 2 (by decide)).1 h))];by_cases d:qcO a=3
  ·rw[if_pos d,if_pos d.symm]
  rw[if_neg d,if_neg (λh=>d h.symm)]
 |[b1,b2],e =>
  show qbC [a,b1,b2] c=if qbH a 3 c=true then 0 else if 4=qcO a then 2 else 1;have i:4=qcO a:=by
   have:3<qcO a:=e;omega
  simp only[qbC];by_cases b:c.toNat<128\/191<c.toNat
  ·rw[if_pos b,if_pos ((qdK a c 3 (by decide)).2 b)]
  rw[if_neg b,if_neg (λh=>b ((qdK a c 3 (by decide)).1 h)),if_pos i]
 |_::_::_::l,e=>simp only[List.length_cons]at e;omega
theorem qdr(c:UInt8):qbC [] c=if qcO c=0 then 0 else if qcO c=1 then 2 else 1:=by
 obtain⟨d,e,f,g⟩:=qqY c;simp only[qbC];by_cases a:qcO c=0
 ·rw[if_pos a];have:=e.2 a;rw[if_neg (by omega),if_pos this]
 rw[if_neg a];by_cases b:qcO c=1
 ·rw[if_pos b,if_pos (d.2 b)]
 rw[if_neg b,if_neg (λh=>b (d.1 h)),if_neg (λh=>a (e.1 h))]
theorem quQ(a c:UInt8)(j:Nat)(e:2<=qcO a)(g:1<=j)(h:c.toNat<32):qbH a j c=true:=by
 obtain⟨_,_,d,_⟩:=qqY a;have f:=(d e).2.2.2;unfold qbH;by_cases b:j=1
 ·subst b;simp;omega
 simp;omega

end
section
open Go.RowKit
def qoU:List UInt8->Nat->Nat
 |[],n=>n
 |c::cs,n=>qoU cs (n*10+(c.toNat-48))
theorem qre:∀(a:List UInt8) (n:Nat),n<=qoU a n
 |[],n=>Nat.le_refl _
 |c::cs,n=>by
  have:=qre cs (n*10+(c.toNat-48));unfold qoU;omega
theorem qhf:∀(b a:List UInt8) (n:Nat),qoU (b++a) n=qoU a (qoU b n)
 |[],a,n=>rfl
 |c::cs,a,n=>by
  show qoU (cs++a) _=qoU a (qoU cs _);exact qhf cs a _
theorem qtk{α:Type}{l:List α}{c:α}{r:List α}(h:l.drop p=c::r):l[p]?=some c/\l.drop (p+1)=r:=by
 constructor
 ·have:=congrArg (λx=>x[0]?) h;simpa using this
 have:=congrArg (λx=>x.drop 1) h;simpa[List.drop_drop,Nat.add_comm]using this
theorem qpX{α:Type}{l:List α}(h:l.drop p=[]):l[p]?=none:=by
 have:=congrArg (λx=>x[0]?) h;simpa using this
theorem qgo(d:Nat)(h:d<10):(UInt8.ofNat (48+d)).toNat=48+d:=by
 rw[UInt8.toNat_ofNat',Nat.mod_eq_of_lt (by omega)]
theorem qmO(d:Nat)(h:d<10):qbO (UInt8.ofNat (48+d))=true:=by
 unfold qbO;rw[qgo d h];simp;omega
theorem qd7(u:Nat):∃c cs,Lib.decDigits u=c::cs/\qbO c=true/\(∀d∈cs,qbO d=true)/\qoU cs (c.toNat-48)=u/\(c.toNat=48->u=0)/\(u=0->c=48/\cs=[])/\u<10^(cs.length+1):=by
 induction u using Nat.strongRecOn with
 |_ u ih =>
  by_cases h:u<10
  ·rw[Lib.decDigits,dif_pos h];refine⟨_,[],rfl,qmO u h,by simp,?_,?_,?_,by simpa using h⟩
   ·show(UInt8.ofNat (48+u)).toNat-48=u;rw[qgo u h];omega
   ·rw[qgo u h];omega
   rintro rfl;exact⟨rfl,rfl⟩
  rw[Lib.decDigits,dif_neg h];obtain⟨c,cs,e,f,g,i,j,k,l⟩:=ih (u/10) (by omega);refine⟨c,cs++[UInt8.ofNat (48+u%10)],by rw[e];rfl,f,?_,?_,?_,?_,?_⟩
  ·intro d a;rcases List.mem_append.1 a with a|a
   ·exact g d a
   rw[List.mem_singleton.1 a];exact qmO _ (Nat.mod_lt _ (by decide))
  ·rw[qhf,i];show u/10*10+((UInt8.ofNat (48+u%10)).toNat-48)=u;rw[qgo _ (Nat.mod_lt _ (by decide))];omega
  ·intro b;have:=j b;omega
  ·intro b;omega
  rw[List.length_append,Nat.pow_succ];simp only[List.length_cons,List.length_nil];rw[show cs.length+(0+1)=cs.length+1 by omega];omega

def thA(kind n:Int)(s:ByteArray)(ks vs:Value):Array Value:=#[.int .i64 kind,.int .i64 n,.string s,ks,vs]
theorem qwE(k n:Int)(s:ByteArray)(a b:Option Addr)(i j p q:Nat):(thA k n s (.slice a i j) (.slice b p q)).all (·.oneCell')=true:=by simp[thA,Value.oneCell']
def ThG(T:Array Value):Prop:=T.size=5/\T.all (·.oneCell')=true
theorem thg{k n:Int}{a b:Option Addr}{j q:Nat}:ThG (thA k n s (.slice a i j) (.slice b p q)):=⟨rfl,qwE _ _ _ _ _ _ _ _ _⟩

end
end Go.Proofs.YtpifimohecagoaaGreatDoor
