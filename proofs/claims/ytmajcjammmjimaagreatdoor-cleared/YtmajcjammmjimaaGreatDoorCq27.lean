import Derived.Test.YtmajcjammmjimaaGreatDoorCq23
import Derived.Test.YtmajcjammmjimaaGreatDoorCq21
import Derived.Test.YtmajcjammmjimaaGreatDoorCq17
set_option maxRecDepth 100000
set_option maxHeartbeats 8000000
set_option linter.all false
namespace Go.Proofs.YtmajcjammmjimaaGreatDoor
open Go.Proofs.Tryz
variable{N base j k n p so x:Nat}{V V' W W':World}{cs:Array Value}{v v':Value}{H bs ch cur l r rest:List UInt8}{a b c c0:UInt8}{f:DataW Unit->List UInt8}{lim z:Int}{hd:Nat->Nat×Nat×Nat}{rd:Nat->Except (Int×Int) (DataW Unit×Nat)}
section
open Go.RowKit Go.Lib
theorem qtc(T:DataW Unit->List UInt8)(W:World)(f:Nat)(v:Value)(q:Option Addr)(u:Nat)(F:Nat->Prop)(hF:∀k,F k->k<f)(bs:List UInt8)(b:List (DataW Unit))(E:List Value)(hl:bs.length+(qcu T b).length+2<=999999999)(hn:b.length<=999999999)(o:qbE W 47 1 F (.slice q b.length u) b.length E)(am:∀(i:Nat) (x:Value) (d:DataW Unit),E[i]?=some x->b[i]?=some d->qeN W f x (T d))(al:∀(i:Nat) (x:Value),E[i]?=some x->∃ar y,x=.iface ar y)(h:Own W f v bs):Calls prog 68 #[v,.slice q b.length u] W λe W'=>∃K,e=.returned K/\Own W' f K (((bs++[91])++qcu T b)++[93])/\Below f W W':=by
 obtain⟨n,X,Z,a,c⟩:=kaF Tryz.infoU8;obtain⟨av,a2,aw,rfl⟩:=h.2.2;have C:=qab h;have HU:=qab o;have HI:=qab am;have HF:=qab al;go_enter func68,ntmps68
 go_wp2_with(first
  |(at_builtin;refine kao _ rfl _ _ 27 rfl f 5 n (.int .u8 0) 1 1 underlying27 X Z a c rfl (by decide) _ _ _ rfl (C.out.1.alloc _) ⟨W.heap.size,0,none⟩ 1 1 [.int .u8 91] rfl rfl (qag _ _ _) (λac o=>by simp at o;subst o;rfl) (by unfold maxLen;omega) (by omega) (by simp;have:=C.out.2.1;omega) ?_;intro K w2 r I aa;obtain⟨ai,ah,rfl⟩:=ownsRow_succ r;have z:=qab (qa4 ((kam _ _).alloc C.out.2.1 _) (C.out.1.alloc _) I (by simp;have:=C.out.2.1;omega));have af:Hid (Own w2 f (.slice (some ⟨ai,0,none⟩) _ ah) (bs++[91])):=⟨qbQ r rfl,kaj C.out.2.1 z.out.size,_,_,_,rfl⟩))
 go_loopg[0,12] b.length (λg y au wr=>∃(k:Nat) (O:Option Addr) (t P:Nat),y=.slice O t P/\au=.int .i64 k/\Hid (k+g=b.length)/\Hid (Own wr f (.slice O t P) ((bs++[91])++qcu T (b.take k)))/\Hid (Below f W wr))
 case atStart=>exact⟨0,_,_,_,rfl,rfl,by show _=_;omega,by simpa[qcu]using af,z⟩
 case round =>
  obtain⟨k,O,t,P,rfl,rfl,J,l,A⟩:=hrel;have ap:((bs++[91])++qcu T (b.take k)).length<=999999998:=by
   have:=qgt T b k;simp only[kaa,kah,kay];omega
  obtain⟨m,B⟩:∃m,Hid ((bs++[91])++qcu T (b.take k)=m):=⟨_,show _=_ from rfl⟩
  rw[B.out]at l ap
  cases gk with
  |zero =>
   have aq:¬(k:Int)<b.length:=by have:=J.out;omega
   have s:Hid (b.take k=b):=by show _=_;exact kaU (by have:=J.out;omega)
   go_wp2_with(first
    |(at_builtin;refine kao _ rfl _ _ 27 rfl f 5 n (.int .u8 0) 1 1 underlying27 X Z a c rfl (by decide) _ _ _ rfl (l.out.1.alloc _) ⟨wr.heap.size,0,none⟩ 1 1 [.int .u8 93] rfl rfl (qag _ _ _) (λac o=>by simp at o;subst o;rfl) (by unfold maxLen;omega) (by omega) (by simp;have:=l.out.2.1;omega) ?_;intro K D r I aa;obtain⟨S,R,rfl⟩:=ownsRow_succ r;have p:=qab (qa4 ((kam _ _).alloc l.out.2.1 _) (l.out.1.alloc _) I (by simp;have:=l.out.2.1;omega));have H:Hid (Own D f (.slice (some ⟨S,0,none⟩) _ R) (m++[93])):=⟨qbQ r rfl,kaj l.out.2.1 p.out.size,_,_,_,rfl⟩))
   go_ret;have he:m++[93]=bs++91::(qcu T b++[93]):=by
    rw[<-B.out,s.out];simp
   have w:=H.out;rw[he]at w;exact⟨_,rfl,w,A.out.trans p.out⟩
  |succ g =>
   have ao:k<b.length:=by have:=J.out;omega
   have aq:(k:Int)<b.length:=by omega
   have N:=HU.out.same (V':=wr) (G:=F) (λ_ h=>h) (λab hj=>A.out.block ab (hF ab hj));obtain⟨q0,rfl⟩:∃q0,q=some ⟨q0,0,none⟩:=by
    rcases N.2 with⟨_,e⟩|⟨g,ax,m,e,_⟩
    ·omega
    injection e with e1 e2 e3;exact⟨g,e1⟩
   have a1:E.length=b.length:=by have:=N.1;omega
   obtain⟨x,Y⟩:∃x,E[k]?=some x:=⟨E[k],kab (by omega)⟩
   obtain⟨d,V⟩:∃d,b[k]?=some d:=⟨b[k],kab ao⟩
   obtain⟨tx,yx,rfl⟩:=HF.out k x Y;have hc:wr.cell? ⟨q0,k,none⟩=some (.iface tx yx):=by
    have:=N.cell k _ Y;have e:(⟨q0,0,none⟩:Addr).add k=⟨q0,k,none⟩:=by by_cases h:k=0<;>simp[Addr.add,h]
    rwa[e]at this
   have U:=qgt T b (k+1);have ae:=HI.out k _ d Y V;have j:=qab ae;have ay:(wr.alloc (.cells #[.int .u8 44] 5)).cell? ⟨q0,k,none⟩=some (.iface tx yx):=(kal wr _ _ (by rw[hc];rfl)).trans hc;by_cases an:k=0
   ·subst an;have s:=qab (qin T b d V);have M:Hid (m.length+(T d).length<=999999999):=by
     show _<=_;rw[<-B.out];rw[s.out]at U;simp only[kaa,kah,kay,kdE,qcu];omega
    have Q:=j.out wr _ _ A.out l.out M.out;have HK:Hid (0+(g+1)=b.length):=J
    go_wp2_with(first
     |(go_at_call 50;refine Q.mono ?_;rintro e D ⟨v4,rfl,w,aj⟩;obtain⟨o4,b4,a4,n4,c4,rfl⟩:=w;have H:Hid (Own D f (.slice a4 n4 c4) (m++T d)):=⟨o4,b4,_,_,_,rfl⟩;have p:=qab (A.out.trans aj)))
    go_roundg g
    case measure=>omega
    case rel=>exact⟨1,a4,n4,c4,rfl,by go_num,by show _=_;have:=HK.out;omega,by show Own _ _ _ _;rw[s.out];have w:=H.out;rw[<-B.out]at w;simpa[qcu]using w,p⟩
   have az:decide ((0:Int)<(k:Int))=true:=by simp;omega
   have a0:(0:Int)<(k:Int):=by omega
   have s:=qab (qks T b k (by omega) d V);have M:Hid ((m++[44]).length+(T d).length<=999999999):=by
    show _<=_;rw[<-B.out];rw[s.out]at U;simp only[kaa,kah,kay]at U ⊢;omega
   go_wp2_with(first
    |(at_builtin;refine kao _ rfl _ _ 27 rfl f 5 n (.int .u8 0) 1 1 underlying27 X Z a c rfl (by decide) _ _ _ rfl (l.out.1.alloc _) ⟨wr.heap.size,0,none⟩ 1 1 [.int .u8 44] rfl rfl (qag _ _ _) (λac o=>by simp at o;subst o;rfl) (by unfold maxLen;omega) (by omega) (by simp;have:=l.out.2.1;omega) ?_;intro K D r I aa;obtain⟨S,R,rfl⟩:=ownsRow_succ r;have p:=qab (qa4 ((kam _ _).alloc l.out.2.1 _) (l.out.1.alloc _) I (by simp;have:=l.out.2.1;omega));have H:Hid (Own D f (.slice (some ⟨S,0,none⟩) _ R) (m++[44])):=⟨qbQ r rfl,kaj l.out.2.1 p.out.size,_,_,_,rfl⟩;have Q:=j.out D _ _ (A.out.trans p.out) H.out M.out)
    |(go_at_call 50;refine Q.mono ?_;rintro e w5 ⟨v5,rfl,L,ak⟩;obtain⟨o5,b5,a5,n5,c5,rfl⟩:=L;have ag:Hid (Own w5 f (.slice a5 n5 c5) ((m++[44])++T d)):=⟨o5,b5,_,_,_,rfl⟩;have ad:=qab ((A.out.trans p.out).trans ak)))
   go_roundg g
   case measure=>omega
   case rel=>exact⟨k+1,a5,n5,c5,rfl,by go_num,by show _=_;have:=J.out;omega,by show Own _ _ _ _;rw[s.out];have L:=ag.out;rw[<-B.out]at L;simpa only[kap]using L,ad⟩

def qeZ(T:DataW Unit->List UInt8)(e:Lit×DataW Unit):List UInt8:=(jsT (qaN e.1)++[58])++T e.2
structure qpg(base:Nat)(W:World)(N:Nat)(cs:Array Value)(v:Value)(cur:List UInt8)(V:World):Prop where
 own:Own V base v cur
 below:Below base W V
 row:V.heap[N]?=some (.cells cs 124)
theorem qpg.app{o:Obj}(h:qpg base W N cs v cur V)(f:V'.ownsRow base 5 1 v' (cur.length+1) (cur.map qax++[qax b]))(d:(V.alloc o).grownBy V' v.ownBlock):qpg base W N cs v' (cur++[b]) V':=by
 have a:=qa4 ((kam base V).alloc h.own.2.1 _) (h.own.1.alloc _) d (by have:=h.own.2.1;simp;omega);refine⟨⟨by rw[kaa,kaW];exact f,kaj h.own.2.1 a.size,?_⟩,h.below.trans a,?_⟩
 ·rcases f.2 with⟨e,_⟩|⟨g,i,c,e,_⟩
  ·exact⟨none,0,0,e⟩
  exact⟨_,_,_,e⟩
 exact((qeI V o).trans (qeW (h.own.1.alloc o) d)) N cs _ _ h.row (by decide)
theorem qpg.said(h:qpg base W N cs v cur V)(c:Own V' base v' (cur++l))(a:Below base V V')(b:KpU V V'):qpg base W N cs v' (cur++l) V' :=
 ⟨c,h.below.trans a,b N cs _ _ h.row (by decide)⟩
theorem qnr(h:Own W base v bs)(d:0<bs.length):∃g a,v=.slice (some ⟨g,0,none⟩) bs.length a:=by
 rcases h.1.2 with⟨_,b⟩|⟨g,a,c,b,_⟩
 ·omega
 exact⟨g,a,b⟩
theorem qlF(l:List UInt8):0<(jsT l).length:=by simp[jsT]
theorem qwz(T:DataW Unit->List UInt8)(W:World)(f:Nat)(v:Value)(q:Option Addr)(ao:Nat)(F:Nat->Prop)(hF:∀k,F k->k<f)(bs:List UInt8)(b:List (Lit×DataW Unit))(xs:List Value)(hl:bs.length+(qcu (qeZ T) b).length+2<=999999999)(hn:b.length<=999999999)(o:qbE W 124 2 F (.slice q b.length ao) b.length xs)(ay:∀(am:Nat) (t:Lit) (d:DataW Unit),b[am]?=some (t,d)->∃l aq y,t=.string l/\xs[2*am]?=some (.string ⟨l.toArray⟩)/\xs[2*am+1]?=some (.iface aq y)/\qeN W f (.iface aq y) (T d))(h:Own W f v bs):Calls prog 69 #[v,.slice q b.length ao] W λe W'=>∃I,e=.returned I/\Own W' f I (((bs++[123])++qcu (qeZ T) b)++[125])/\Below f W W':=by
 obtain⟨V,P,R,S,U⟩:=kaF Tryz.infoU8;obtain⟨a6,bf,a8,rfl⟩:=h.2.2;have K:=qab h;have HU:=qab o;have HI:=qab ay;go_enter func69,ntmps69
 go_wp2_with(first
  |(at_builtin;refine kao _ rfl _ _ 27 rfl f 5 V (.int .u8 0) 1 1 underlying27 P R S U rfl (by decide) _ _ _ rfl (K.out.1.alloc _) ⟨W.heap.size,0,none⟩ 1 1 [.int .u8 123] rfl rfl (qag _ _ _) (λu o=>by simp at o;subst o;rfl) (by unfold maxLen;omega) (by omega) (by simp;have:=K.out.2.1;omega) ?_;intro I w2 p B j;obtain⟨aw,av,rfl⟩:=ownsRow_succ p;have an:=qab (qa4 ((kam _ _).alloc K.out.2.1 _) (K.out.1.alloc _) B (by simp;have:=K.out.2.1;omega));have ar:Hid (Own w2 f (.slice (some ⟨aw,0,none⟩) _ av) (bs++[123])):=⟨qbQ p rfl,kaj K.out.2.1 an.out.size,_,_,_,rfl⟩))
 go_loopg[0,12] b.length (λg y z wr=>∃(k:Nat) (c:Option Addr) (i n:Nat),y=.slice c i n/\z=.int .i64 k/\Hid (k+g=b.length)/\Hid (Own wr f (.slice c i n) ((bs++[123])++qcu (qeZ T) (b.take k)))/\Hid (Below f W wr))
 case atStart=>exact⟨0,_,_,_,rfl,rfl,by show _=_;omega,by simpa[qcu]using ar,an⟩
 case round =>
  obtain⟨k,c,i,n,rfl,rfl,Q,s,a⟩:=hrel;have a1:((bs++[123])++qcu (qeZ T) (b.take k)).length<=999999998:=by
   have:=qgt (qeZ T) b k;simp only[kaa,kah,kay];omega
  obtain⟨m,J⟩:∃m,Hid ((bs++[123])++qcu (qeZ T) (b.take k)=m):=⟨_,show _=_ from rfl⟩
  rw[J.out]at s a1
  cases gk with
  |zero =>
   have a2:¬(k:Int)<b.length:=by have:=Q.out;omega
   have H:Hid (b.take k=b):=by show _=_;exact kaU (by have:=Q.out;omega)
   go_wp2_with(first
    |(at_builtin;refine kao _ rfl _ _ 27 rfl f 5 V (.int .u8 0) 1 1 underlying27 P R S U rfl (by decide) _ _ _ rfl (s.out.1.alloc _) ⟨wr.heap.size,0,none⟩ 1 1 [.int .u8 125] rfl rfl (qag _ _ _) (λu o=>by simp at o;subst o;rfl) (by unfold maxLen;omega) (by omega) (by simp;have:=s.out.2.1;omega) ?_;intro I w4 p B j;obtain⟨ag,ae,rfl⟩:=ownsRow_succ p;have aa:=qab (qa4 ((kam _ _).alloc s.out.2.1 _) (s.out.1.alloc _) B (by simp;have:=s.out.2.1;omega));have au:Hid (Own w4 f (.slice (some ⟨ag,0,none⟩) _ ae) (m++[125])):=⟨qbQ p rfl,kaj s.out.2.1 aa.out.size,_,_,_,rfl⟩))
   go_ret;have he:m++[125]=((bs++[123])++qcu (qeZ T) b)++[125]:=by rw[<-J.out,H.out]
   have h4:=au.out;rw[he]at h4
   first|exact⟨_,rfl,h4,a.out.trans aa.out⟩|exact⟨_,rfl,by simpa using h4,a.out.trans aa.out⟩
  |succ g =>
   have a0:k<b.length:=by have:=Q.out;omega
   have a2:(k:Int)<b.length:=by omega
   have HR:=HU.out.same (V':=wr) (G:=F) (λ_ h=>h) (λap hj=>a.out.block ap (hF ap hj));obtain⟨q0,rfl⟩:∃q0,q=some ⟨q0,0,none⟩:=by
    rcases HR.2 with⟨_,e⟩|⟨g,a9,m,e,_⟩
    ·omega
    injection e with e1 e2 e3;exact⟨g,e1⟩
   obtain⟨⟨t,d⟩,hd⟩:∃d,b[k]?=some d:=⟨b[k],kab a0⟩
   obtain⟨l,C,D,rfl,a4,a5,hI⟩:=HI.out k t d hd;have ba:wr.cell? ⟨q0,k*2,none⟩=some (.string ⟨l.toArray⟩):=by
    have:=HR.cell (2*k) _ a4;have e:(⟨q0,0,none⟩:Addr).add (2*k)=⟨q0,k*2,none⟩:=by by_cases h:2*k=0<;>simp only[Addr.add,h,kaL,kb9 k 2,ker,kep]
    rwa[e]at this
   have bb:wr.cell? ⟨q0,k*2+1,none⟩=some (.iface C D):=by
    have:=HR.cell (2*k+1) _ a5;have e:(⟨q0,0,none⟩:Addr).add (2*k+1)=⟨q0,k*2+1,none⟩:=by simp[Addr.add,kb9]
    rwa[e]at this
   have L:Hid (qpg f W wr.heap.size #[.string ⟨l.toArray⟩,.iface C D] (.slice c i n) m (wr.alloc (.cells #[.string ⟨l.toArray⟩,.iface C D] 124))):=⟨⟨s.out.1.alloc _,by have:=s.out.2.1;simp;omega,_,_,_,rfl⟩,a.out.trans ((kam f wr).alloc s.out.2.1 _),qac _ _⟩
   have HJ:=qab hI;have al:=qgt (qeZ T) b (k+1);have bc:(qeZ T (.string l,d)).length=(jsT l).length+1+(T d).length:=by simp[qeZ,qaN];omega
   by_cases az:k=0
   ·subst az;have H:=qab (qin (qeZ T) b (.string l,d) hd);have hL:m.length+(jsT l).length+1+(T d).length+1<=999999999:=by
     rw[H.out]at al;rw[<-J.out];simp only[kaa,kah,kay,kdE,qcu];omega
    have HE:Hid (((m++jsT l)++[58])++T d=(bs++[123])++qcu (qeZ T) (b.take (0+1))):=by
     show _=_;rw[H.out,<-J.out];simp[qeZ,qaN,qcu]
    have O:=qiM _ f _ ⟨l.toArray⟩ m (by show _+(jsT l).length<=_;omega) L.out.own;have e9:jsT (⟨l.toArray⟩:ByteArray).data.toList=jsT l:=rfl;rw[e9]at O
    go_wp2_with(first
     |(go_at_call 67;refine O.mono ?_;rintro e Y ⟨v5,rfl,h5,ai,ak⟩;obtain⟨r,E⟩:∃z,Hid (m++jsT l=z):=⟨_,show _=_ from rfl⟩;have w:Hid (0<r.length/\r.length+1+(T d).length+1<=999999999):=(by rw[<-E.out];have:=qlF l;simp only[kaa];exact⟨by omega,by omega⟩);have x:Hid (qpg f W wr.heap.size #[.string ⟨l.toArray⟩,.iface C D] v5 r Y):=(by rw[<-E.out];exact L.out.said h5 ai ak);obtain⟨g5,c5,rfl⟩:=qnr x.out.own w.out.1)
     |(at_builtin;refine kao _ rfl _ _ 27 rfl f 5 V (.int .u8 0) 1 1 underlying27 P R S U rfl (by decide) _ _ _ rfl (x.out.own.1.alloc _) ⟨Y.heap.size,0,none⟩ 1 1 [.int .u8 58] rfl rfl (qag _ _ _) (λu o=>by simp at o;subst o;rfl) (by have:=w.out.2;unfold maxLen;omega) (by have:=w.out.2;omega) (by have:=x.out.own.2.1;simp only[kad]at this ⊢;omega) ?_;intro I Z p B j;obtain⟨ah,af,rfl⟩:=ownsRow_succ p;have A:Hid (qpg f W wr.heap.size #[.string ⟨l.toArray⟩,.iface C D] (.slice (some ⟨ah,0,none⟩) (r.length+1) af) (r++[58]) Z):=x.out.app p B;have ax:=qaa A.out.row 1)
     |(go_at_call 50;refine(HJ.out Z _ _ A.out.below A.out.own (by have:=w.out.2;simp only[kaa,kah,kay];omega)).mono ?_;rintro e w7 ⟨v7,rfl,h7,aj⟩;obtain⟨o7,b7,M,X,N,rfl⟩:=h7;have ac:Hid (Own w7 f (.slice M X N) ((r++[58])++T d)):=⟨o7,b7,_,_,_,rfl⟩;have ab:=qab (A.out.below.trans aj)))
    go_roundg g
    case measure=>omega
    case rel=>exact⟨1,M,X,N,rfl,by go_num,by show _=_;have:=Q.out;omega,by have h:=ac.out;rw[<-E.out,HE.out]at h;exact h,ab⟩
   have H:=qab (qks (qeZ T) b k (by omega) (.string l,d) hd);have be:(0:Int)<(k:Int):=by omega
   have hL:m.length+1+(jsT l).length+1+(T d).length+1<=999999999:=by
    rw[H.out]at al;rw[<-J.out];simp only[kaa,kah,kay]at al ⊢;omega
   have HE:Hid ((((m++[44])++jsT l)++[58])++T d=(bs++[123])++qcu (qeZ T) (b.take (k+1))):=by
    show _=_;rw[H.out,<-J.out];simp[qeZ,qaN]
   go_wp2_with(first
    |(at_builtin;refine kao _ rfl _ _ 27 rfl f 5 V (.int .u8 0) 1 1 underlying27 P R S U rfl (by decide) _ _ _ rfl (L.out.own.1.alloc _) ⟨wr.heap.size+1,0,none⟩ 1 1 [.int .u8 44] rfl rfl (by have h:=qag (wr.alloc (.cells #[.string ⟨l.toArray⟩,.iface C D] 124)) #[.int .u8 44] 5;rw[kad]at h;exact h) (λu o=>by simp at o;subst o;rfl) (by unfold maxLen;omega) (by omega) (by have:=L.out.own.2.1;simp only[kad]at this ⊢;omega) ?_;intro I w4 p B j;obtain⟨ag,ae,rfl⟩:=ownsRow_succ p;have ad:Hid (qpg f W wr.heap.size #[.string ⟨l.toArray⟩,.iface C D] (.slice (some ⟨ag,0,none⟩) (m.length+1) ae) (m++[44]) w4):=L.out.app p B;have bd:=qaa ad.out.row 0;have O:=qiM _ f _ ⟨l.toArray⟩ (m++[44]) (by show _+(jsT l).length<=_;simp only[kaa,kah,kay];omega) ad.out.own;have e9:jsT (⟨l.toArray⟩:ByteArray).data.toList=jsT l:=rfl;rw[e9]at O)
    |(go_at_call 67;refine O.mono ?_;rintro e Y ⟨v5,rfl,h5,ai,ak⟩;obtain⟨r,E⟩:∃z,Hid ((m++[44])++jsT l=z):=⟨_,show _=_ from rfl⟩;have w:Hid (0<r.length/\r.length+1+(T d).length+1<=999999999):=(by rw[<-E.out];have:=qlF l;simp only[kaa,kah,kay];exact⟨by omega,by omega⟩);have x:Hid (qpg f W wr.heap.size #[.string ⟨l.toArray⟩,.iface C D] v5 r Y):=(by rw[<-E.out];exact ad.out.said h5 ai ak);obtain⟨g5,c5,rfl⟩:=qnr x.out.own w.out.1)
    |(at_builtin;refine kao _ rfl _ _ 27 rfl f 5 V (.int .u8 0) 1 1 underlying27 P R S U rfl (by decide) _ _ _ rfl (x.out.own.1.alloc _) ⟨Y.heap.size,0,none⟩ 1 1 [.int .u8 58] rfl rfl (qag _ _ _) (λu o=>by simp at o;subst o;rfl) (by have:=w.out.2;unfold maxLen;omega) (by have:=w.out.2;omega) (by have:=x.out.own.2.1;simp only[kad]at this ⊢;omega) ?_;intro I Z p B j;obtain⟨ah,af,rfl⟩:=ownsRow_succ p;have A:Hid (qpg f W wr.heap.size #[.string ⟨l.toArray⟩,.iface C D] (.slice (some ⟨ah,0,none⟩) (r.length+1) af) (r++[58]) Z):=x.out.app p B;have ax:=qaa A.out.row 1)
    |(go_at_call 50;refine(HJ.out Z _ _ A.out.below A.out.own (by have:=w.out.2;simp only[kaa,kah,kay];omega)).mono ?_;rintro e w7 ⟨v7,rfl,h7,aj⟩;obtain⟨o7,b7,M,X,N,rfl⟩:=h7;have ac:Hid (Own w7 f (.slice M X N) ((r++[58])++T d)):=⟨o7,b7,_,_,_,rfl⟩;have ab:=qab (A.out.below.trans aj)))
   go_roundg g
   case measure=>omega
   case rel=>exact⟨k+1,M,X,N,rfl,by go_num,by show _=_;have:=Q.out;omega,by have h:=ac.out;rw[<-E.out,HE.out]at h;exact h,ab⟩

end
section
open Go.RowKit Go.Shelf
structure qz1(w:World)(c:Cfg)(N:Nat)(A:Array Value)(W:World):Prop where
 below:Below w.heap.size w W
 box:W.heap[w.heap.size]?=some (.cells c.arr 25)
 row:W.heap[N]?=some (.cells A 87)
theorem qz1.step{w:World}{c:Cfg}{A:Array Value}(h:qz1 w c N A W)(a:Below W.heap.size W W'):qz1 w c N A W' :=
 ⟨h.below.trans (a.mono h.below.size),(a.block _ (ltA h.box)).trans h.box,(a.block _ (ltA h.row)).trans h.row⟩
theorem qrm{c:Cfg}(h:qb4 c=0):qfm c.labels.toNat c.pol.data.toList=0:=by
 rw[<-(qlW c).1]at h;unfold qie at h;split at h
 ·next hh=>exact absurd h hh
 split at h
 ·cases h
 split at h
 ·cases h
 exact h

end
section
open Go.RowKit
theorem qdo.same{kt:TypeId}{m:Nat}{f:Lit->Option Nat}(h:qdo W kt m n f)(g:W'.heap[m]?=W.heap[m]?):qdo W' kt m n f:=by
 obtain⟨D,⟨b,a,c,d⟩,e⟩:=h;exact⟨D,⟨b,a,g.trans c,d⟩,e⟩
theorem qcy.rebase{W0 W1:World}{A:Nat}{q:Aut}{sts:List ((Nat->Nat)×Int×Int)}{sv:Value}{nf:Lit->Option Nat}{mn:Nat}{mf:Lit->Option Nat}(h:qcy W0 A q sts sv nf mn mf W)(b:W1.heap.size=W0.heap.size)(d:Below W1.heap.size W1 W')(f:qep W1 q.ra q.rs)(a:∀j,j=A\/j=q.lm\/j=q.tb\/j=q.nb\/j=q.mb\/sv.ownBlock=some j->W'.heap[j]?=W.heap[j]?):qcy W1 A q sts sv nf mn mf W':=by
 obtain⟨c,k,l⟩:=h.takes;have i:=qd1 (W':=W') h.states λg e=>a g (.inr (.inr (.inr (.inr (.inr e)))));exact{h with
  row:=(a A (.inl rfl)).trans h.row
  rules:=f
  below:=d
  letters:=h.letters.same (a _ (.inr (.inl rfl)))
  takes:=⟨c,(a _ (.inr (.inr (.inl rfl)))).trans k,l⟩
  states:=by rw[b];exact i
  numbers:=h.numbers.same (a _ (.inr (.inr (.inr (.inl rfl)))))
  moves:=h.moves.same (a _ (.inr (.inr (.inr (.inr (.inl rfl))))))
  high:=by rw[b];exact h.high}

end
section
theorem qre{dflt:Int}(a:∃l:Nat,dflt=l/\l<n):∀(rs:List (List (Nat×List UInt8)×Int×Int)),(∀x∈rs,∃l:Nat,x.2.1=l/\l<n)->∀p,∃l:Nat,(lbF dflt rs p).1=l/\l<n
 |[],_,_=>a
 |x::rs,hr,p=>by
  rw[lbF];split
  ·exact hr x (ka5 ..)
  exact qre a rs (λy b=>hr y (ka9 _ b)) p

end
section
open Go.RowKit Go.Lib
def qcL(c:UInt8):Nat:=if c.toNat<128 then 1 else if c.toNat<194 then 0 else if c.toNat<224 then 2 else if c.toNat<240 then 3 else if c.toNat<245 then 4 else 0
def qfj(c:UInt8):Nat:=if c.toNat<194 then 0 else if c.toNat=224 then 160 else if c.toNat=240 then 144 else if c.toNat<245 then 128 else 0
def qhh(c:UInt8):Nat:=if c.toNat<194 then 0 else if c.toNat=237 then 159 else if c.toNat=244 then 143 else if c.toNat<245 then 191 else 0
theorem qwA:(List.range 256).all (λx=>(let c:=UInt8.ofNat x;decide ((szU c=0↔qcL c=1)/\(szU c=1↔qcL c=0)/\(2<=qcL c->szU c=qcL c/\loU c=qfj c/\hiU c=qhh c/\128<=qfj c)/\qcL c<=4)))=true:=by kernel_rfl
theorem qqW(c:UInt8):(szU c=0↔qcL c=1)/\(szU c=1↔qcL c=0)/\(2<=qcL c->szU c=qcL c/\loU c=qfj c/\hiU c=qhh c/\128<=qfj c)/\qcL c<=4:=by
 have h:=ka3.1 qwA c.toNat (kav.2 c.toNat_lt);have a:=kaq h;rw[UInt8.ofNat_toNat]at a;exact a
def qbF(c0:UInt8)(j:Nat)(c:UInt8):Bool:=(j==1&&(decide (c.toNat<qfj c0)||decide (qhh c0<c.toNat)))||(decide (1<j)&&(decide (c.toNat<128)||decide (191<c.toNat)))
theorem qiP(a c:UInt8):qbF a 1 c=true↔(c.toNat<qfj a\/qhh a<c.toNat):=by
 unfold qbF;simp
theorem qdO(a c:UInt8)(j:Nat)(d:1<j):qbF a j c=true↔(c.toNat<128\/191<c.toNat):=by
 unfold qbF;have b:(j==1)=false:=by simp;omega
 rw[b,kax d];simp
theorem qk8(a:UInt8)(l:List UInt8)(c:UInt8)(e:l.length+1<qcL a):qb7 (a::l) c=if qbF a (l.length+1) c=true then 0 else if l.length+2=qcL a then 2 else 1:=by
 obtain⟨_,_,g,m⟩:=qqW a;obtain⟨f,j,k,n⟩:=g (by omega)
 match l,e with
 |[],e =>
  show qb7 [a] c=if qbF a 1 c=true then 0 else if 2=qcL a then 2 else 1;simp only[qb7,f,j,k];by_cases b:c.toNat<qfj a\/qhh a<c.toNat
  ·rw[kag b,kag ((qiP a c).2 b)]
  rw[kac b,kac (λh=>b ((qiP a c).1 h))];by_cases d:qcL a=2
  ·rw[kag d,kag d.symm]
  rw[kac d,kac (λh=>d h.symm)]
 |[b1],e =>
  show qb7 [a,b1] c=if qbF a 2 c=true then 0 else if 3=qcL a then 2 else 1;simp only[qb7,f];by_cases b:c.toNat<128\/191<c.toNat
  ·rw[kag b,kag ((qdO a c 2 (by decide)).2 b)]
  rw[kac b,kac (λh=>b ((qdO a c 2 (by decide)).1 h))];by_cases d:qcL a=3
  ·rw[kag d,kag d.symm]
  rw[kac d,kac (λh=>d h.symm)]
 |[b1,b2],e =>
  show qb7 [a,b1,b2] c=if qbF a 3 c=true then 0 else if 4=qcL a then 2 else 1;have i:4=qcL a:=by
   have:3<qcL a:=e;omega
  simp only[qb7];by_cases b:c.toNat<128\/191<c.toNat
  ·rw[kag b,kag ((qdO a c 3 (by decide)).2 b)]
  rw[kac b,kac (λh=>b ((qdO a c 3 (by decide)).1 h)),kag i]
 |_::_::_::l,e=>simp only[kah]at e;omega
theorem qd6(c:UInt8):qb7 [] c=if qcL c=0 then 0 else if qcL c=1 then 2 else 1:=by
 obtain⟨d,e,f,g⟩:=qqW c;simp only[qb7];by_cases a:qcL c=0
 ·rw[kag a];have:=e.2 a;rw[kac (by omega),kag this]
 rw[kac a];by_cases b:qcL c=1
 ·rw[kag b,kag (d.2 b)]
 rw[kac b,kac (λh=>b (d.1 h)),kac (λh=>a (e.1 h))]
theorem qxe(a c:UInt8)(j:Nat)(e:2<=qcL a)(g:1<=j)(h:c.toNat<32):qbF a j c=true:=by
 obtain⟨_,_,d,_⟩:=qqW a;have f:=(d e).2.2.2;unfold qbF;by_cases b:j=1
 ·subst b;simp;omega
 simp;omega

def ChT(c0:UInt8)(l:List UInt8):Prop:=∀(j:Nat) (c:UInt8),l[j]?=some c->qbF c0 (j+1) c=false
def Ch(ch:List UInt8):Prop:=∃c0 l,ch=c0::l/\l.length+1=qcL c0/\ChT c0 l
def Vt(l:List UInt8):Prop:=∃chs:List (List UInt8),(∀ch∈chs,Ch ch)/\l=chs.flatten
def Pd(p:List UInt8):Prop:=p=[]\/∃c0 l,p=c0::l/\l.length+1<qcL c0/\ChT c0 l
theorem qnt:Vt []:=⟨[],(λ_ h=>by cases h),rfl⟩
theorem qlJ(h:Vt l)(d:Ch ch):Vt (l++ch):=by
 obtain⟨b,c,rfl⟩:=h;refine⟨b++[ch],λx a=>?_,by simp⟩;rcases kcl.1 a with a|a
 ·exact c x a
 rw[kbI.1 a];exact d
theorem qmK(h:ChT c0 l)(d:qbF c0 (l.length+1) c=false):ChT c0 (l++[c]):=by
 intro j x a;by_cases b:j<l.length
 ·exact h j x (by rwa[kau b]at a)
 have:=ltL a;rw[kaa,List.length_singleton]at this;obtain rfl:j=l.length:=by omega
 rw[kas (kaf _),kcO]at a;injection a with a;rwa[<-a]
theorem qpp{p:List UInt8}(h:Pd p)(a:¬qb7 p c=0):(qb7 p c=2/\Ch (p++[c]))\/(¬qb7 p c=2/\Pd (p++[c])):=by
 rcases h with rfl|⟨b,l,rfl,m,k⟩
 ·rw[qd6]at a ⊢;by_cases g:qcL c=0
  ·rw[kag g]at a;exact absurd rfl a
  rw[kac g];by_cases d:qcL c=1
  ·rw[kag d];exact .inl ⟨rfl,c,[],rfl,d.symm,λj x f=>by cases f⟩
  rw[kac d];exact .inr ⟨by decide,.inr ⟨c,[],rfl,by simp;omega,λj x f=>by cases f⟩⟩
 rw[qk8 b l c m]at a ⊢;cases e:qbF b (l.length+1) c
 ·rw[kac (by simp)];by_cases i:l.length+2=qcL b
  ·rw[kag i];exact .inl ⟨rfl,b,l++[c],rfl,by simp;omega,qmK k e⟩
  rw[kac i];exact .inr ⟨by decide,.inr ⟨b,l++[c],rfl,by simp;omega,qmK k e⟩⟩
 rw[e,kag rfl]at a;exact absurd rfl a
theorem qak(h:bs.drop p=c::r):bs[p]?=some c/\bs.drop (p+1)=r/\p<bs.length:=by
 have b:p<bs.length:=by
  have:=congrArg List.length h;rw[kaR,kah]at this;omega
 have a:=ka6 b;rw[h]at a;injection a with a h3;exact⟨by rw[kab b,a],h3.symm,b⟩
theorem qnc(bs:List UInt8)(lim:Int):∀(k p:Nat) (a b:List UInt8) (l:List UInt8) (q:Nat),Vt a->Pd b->qdm bs lim k p (a++b) a.length=.ok (l,q)->Vt l
 |0,p,a,b,l,q,h1,h2,h=>by
  rw[qdm]at h;split at h
  ·next e =>
   rw[kaa]at e;have:b=[]:=ka7 (by omega);subst this;rw[kbj]at h;cases h;exact h1
  cases h
 |k+1,p,a,b,l,q,h1,h2,h=>by
  rw[qdm]at h;split at h
  ·cases h
  next c hc =>
  rw[kba]at h;split at h
  ·cases h
  split at h
  ·cases h
  next ha =>
  rw[kap]at h;rcases qpp h2 ha with⟨e,g⟩|⟨e,i⟩
  ·rw[kag e]at h;have d:(a++b).length+1=(a++(b++[c])).length:=by simp;omega
   rw[d,<-kbj (a++(b++[c]))]at h;have f:(a++(b++[c])++[]).length=(a++(b++[c])).length:=by simp
   rw[f]at h;exact qnc bs lim k (p+1) (a++(b++[c])) [] l q (qlJ h1 g) (.inl rfl) h
  rw[kac e]at h;exact qnc bs lim k (p+1) a (b++[c]) l q h1 i h
theorem qnl(bs:List UInt8)(lim:Int)(q:(bs.length:Int)<=lim)(b:UInt8)(d:List UInt8)(k:Nat)(rest:List UInt8):∀(m a:List UInt8) (p:Nat),m≠[]->a.length+m.length+1=qcL b->ChT b (a++m)->bs.drop p=m++rest->qdm bs lim (m.length+k) p (d++b::a) d.length=qdm bs lim k (p+m.length) (d++b::(a++m)) (d++b::(a++m)).length
 |[],_,_,h,_,_,_=>absurd rfl h
 |c::m,a,p,_,hk,ht,hd=>by
  obtain⟨n,o,r⟩:=qak hd;have i:qbF b (a.length+1) c=false:=ht a.length c (by rw[kas (kaf _),kcO];rfl);have j:a.length+1<qcL b:=by simp at hk;omega
  rw[show(c::m).length+k=m.length+k+1 by simp;omega,qdm,n];simp only[];rw[kac (by omega),kba];have l:d++b::a++[c]=d++b::(a++[c]):=by simp
  have g:a++[c]++m=a++c::m:=by simp
  rw[l];by_cases f:m=[]
  ·subst f;have e:qb7 (b::a) c=2:=by rw[qk8 b a c j,i,kac (by simp),kag (by simp at hk;omega)]
   rw[e,kac (by decide),kag rfl];have:(d++b::a).length+1=(d++b::(a++[c])).length:=by simp;omega
   rw[this];simp
  have s:=kc5.2 f;have e:qb7 (b::a) c=1:=by rw[qk8 b a c j,i,kac (by simp),kac (by simp at hk;omega)]
  have:=qnl bs lim q b d k rest m (a++[c]) (p+1) f (by simp at hk ⊢;omega) (by rw[g];exact ht) o;rw[g]at this;rw[e,kac (by decide),kac (by decide),this,show p+1+m.length=p+(c::m).length by simp;omega]
theorem qyR(bs:List UInt8)(lim:Int)(j:(bs.length:Int)<=lim)(g:Ch ch)(b:List UInt8)(k p:Nat)(rest:List UInt8)(h:bs.drop p=ch++rest):qdm bs lim (ch.length+k) p b b.length=qdm bs lim k (p+ch.length) (b++ch) (b++ch).length:=by
 obtain⟨a,l,rfl,i,m⟩:=g;obtain⟨c,f,n⟩:=qak h;rw[show(a::l).length+k=l.length+k+1 by simp;omega,qdm,c];simp only[];rw[kac (by omega),kcp];by_cases c:qcL a=1
 ·have:l=[]:=ka7 (by omega);subst this;have d:qb7 [] a=2:=by rw[qd6,kac (by omega),kag c]
  rw[d,kac (by decide),kag rfl];simp
 have d:qb7 [] a=1:=by rw[qd6,kac (by omega),kac c]
 rw[d,kac (by decide),kac (by decide)];have:=qnl bs lim j a b k rest l [] (p+1) (by intro e;subst e;simp at i;omega) (by simp;omega) m f;rw[this,show p+1+l.length=p+(a::l).length by simp;omega];rfl
theorem qu4(bs:List UInt8)(lim:Int)(a:(bs.length:Int)<=lim)(rest:List UInt8):∀(chs:List (List UInt8)) (acc:List UInt8) (p:Nat),(∀ch∈chs,Ch ch)->bs.drop p=chs.flatten++rest->qdm bs lim chs.flatten.length p acc acc.length=.ok (acc++chs.flatten,p+chs.flatten.length)
 |[],acc,p,_,_=>by
  show qdm bs lim 0 p acc acc.length=_;rw[qdm,kag rfl];simp
 |ch::chs,acc,p,h,hd=>by
  have e:(ch::chs).flatten=ch++chs.flatten:=rfl;rw[e]at hd ⊢;rw[kap]at hd;rw[kaa,qyR bs lim a (h ch (ka5 ..)) acc chs.flatten.length p _ hd,qu4 bs lim a rest chs (acc++ch) (p+ch.length) (λx b=>h x (ka9 _ b)) (by rw[<-kbf,hd,kba])];rw[kap,kbm]
theorem qmJ(d:(bs.length:Int)<=lim)(h:Vt l)(c:bs.drop p=l++rest):qdm bs lim l.length p [] 0=.ok (l,p+l.length):=by
 obtain⟨a,b,rfl⟩:=h;exact qu4 bs lim d rest a [] p b c

def HdR(hd:Nat->Nat×Nat×Nat)(H:List UInt8)(so n:Nat):Prop:=∃c t w a,H=c::t/\hd c.toNat=(so,w,a)/\t.length=w/\∀(bs:List UInt8) (lim:Int) (p:Nat) (rest:List UInt8),(bs.length:Int)<=lim->bs.drop p=t++rest->qc4 bs lim w p a=.ok (n,p+w)
theorem qdt(h:hd c.toNat=(so,0,n)):HdR hd [c] so n :=
 ⟨c,[],0,n,rfl,h,rfl,λ_ _ _ _ _ _=>rfl⟩
theorem qc8(h:hd c.toNat=(so,k,0))(d:n%256^k=n):HdR hd (c::beF n k) so n :=
 ⟨c,_,k,0,rfl,h,qaY n k,λa e p f b hd=>by
  have:=qlD a e b n k p 0 f hd;rw[this,d,keh,kaL]⟩
theorem qw3(s x:Nat)(c:s<=5)(d:x<24):qdM (UInt8.ofNat (32*s+x)).toNat=(qnF s,0,x):=by
 rw[kbs,kaQ (by omega)];have a:(32*s+x)/32=s:=by omega
 have b:(32*s+x)%32=x:=by omega
 unfold qdM;rw[a,b,kac (by omega),kac (by omega),kac (by omega),kac ?_,kac (by omega)];rintro(h|h)
 ·unfold qnF at h
  repeat' split at h
  all_goals omega
 omega
theorem qgk(s n:Nat)(a:s=0\/s=1\/s=2\/s=3\/s=4\/s=5)(e:n<18446744073709551616):HdR qdM (qaj s n) (qnF s) n:=by
 unfold qaj;by_cases b:n<24
 ·rw[kag b];exact qdt (qw3 s n (by omega) b)
 rw[kac b];by_cases c:n<=255
 ·rw[kag c];exact qc8 (by rcases a with rfl|rfl|rfl|rfl|rfl|rfl<;>rfl) (by omega)
 rw[kac c];by_cases c2:n<=65535
 ·rw[kag c2];exact qc8 (by rcases a with rfl|rfl|rfl|rfl|rfl|rfl<;>rfl) (by omega)
 rw[kac c2];by_cases d:n<=4294967295
 ·rw[kag d];exact qc8 (by rcases a with rfl|rfl|rfl|rfl|rfl|rfl<;>rfl) (by omega)
 rw[kac d];exact qc8 (by rcases a with rfl|rfl|rfl|rfl|rfl|rfl<;>rfl) (by omega)
theorem qrU{a b:Nat}(c:a+n<b)(d:b<=192)(h:∀x,a<=x->x<b->qcb x=(so,0,x-a)):HdR qcb [UInt8.ofNat (a+n)] so n:=by
 refine qdt ?_;rw[kbs,kaQ (by omega),h _ (by omega) c,show a+n-a=n by omega]
theorem qsq(n:Nat)(f:n<4294967296):HdR qcb (qa1 n) 8 n:=by
 unfold qa1;by_cases a:n<32
 ·rw[kag a];exact qrU (b:=192) (by omega) (by omega) λx e d=>by unfold qcb;rw[kac (by omega),kac (by omega),kac (by omega),kag d]
 rw[kac a];by_cases c:n<=255
 ·rw[kag c];exact qc8 rfl (by omega)
 rw[kac c];by_cases c2:n<=65535
 ·rw[kag c2];exact qc8 rfl (by omega)
 rw[kac c2];exact qc8 rfl (by omega)
theorem qss(n:Nat)(b:n<4294967296):HdR qcb (qbr n) 7 n:=by
 unfold qbr;by_cases a:n<=255
 ·rw[kag a];exact qc8 rfl (by omega)
 rw[kac a];by_cases c2:n<=65535
 ·rw[kag c2];exact qc8 rfl (by omega)
 rw[kac c2];exact qc8 rfl (by omega)
theorem qte(n:Nat)(e:n<4294967296):HdR qcb (qbq n) 9 n:=by
 unfold qbq;by_cases a:n<16
 ·rw[kag a];exact qrU (b:=160) (by omega) (by omega) λx d c=>by unfold qcb;rw[kac (by omega),kac (by omega),kag c]
 rw[kac a];by_cases c2:n<=65535
 ·rw[kag c2];exact qc8 rfl (by omega)
 rw[kac c2];exact qc8 rfl (by omega)
theorem qtW(n:Nat)(e:n<4294967296):HdR qcb (qbm n) 10 n:=by
 unfold qbm;by_cases a:n<16
 ·rw[kag a];exact qrU (b:=144) (by omega) (by omega) λx d c=>by unfold qcb;rw[kac (by omega),kag c]
 rw[kac a];by_cases c2:n<=65535
 ·rw[kag c2];exact qc8 rfl (by omega)
 rw[kac c2];exact qc8 rfl (by omega)
theorem qkV(bs d:List UInt8)(lim e:Int)(l:(bs.length:Int)<=lim)(r f:List UInt8):∀(t:List UInt8) (p b a x q:Nat),bs.drop p=t++r->d.drop b=t++f->qc4 d e t.length b a=.ok (x,q)->qc4 bs lim t.length p a=.ok (x,p+t.length)
 |[],p,b,a,x,q,_,_,h=>by
  cases h;rfl
 |c::t,p,b,a,x,q,h1,h2,h=>by
  obtain⟨g,i,m⟩:=qak h1;obtain⟨j,k,n⟩:=qak h2;rw[kah,qc4,j]at h;simp only[]at h;split at h
  ·cases h
  rw[kah,qc4,g];simp only[];rw[kac (by omega),qkV bs d lim e l r f t (p+1) (b+1) _ x q i k h,show p+1+t.length=p+(t.length+1) by omega]
def NmR(hd:Nat->Nat×Nat×Nat)(N:List UInt8)(z:Int):Prop:=∃c t so w a x,N=c::t/\hd c.toNat=(so,w,a)/\(so=4\/so=5\/so=6)/\t.length=w/\(∀(bs:List UInt8) (lim:Int) (p:Nat) (rest:List UInt8),(bs.length:Int)<=lim->bs.drop p=t++rest->qc4 bs lim w p a=.ok (x,p+w))/\∀q,nbF so w x q=.ok z

theorem qyp{so w:Int}{p q:Int}(h:nbF so w x p=.ok z):nbF so w x q=.ok z:=by
 unfold nbF at h ⊢;split at h
 ·next e=>rw[kag e];exact h
 next e =>
 rw[kac e];split at h
 ·cases h
 next e2=>rw[kac e2];exact h
theorem quv{N:List UInt8}(h:qpA hd N lim=.ok (z,N.length)):NmR hd N z:=by
 obtain⟨c,x,a,l,d,j⟩:=qoB h
 cases N with
 |nil=>cases a
 |cons b t =>
  injection a with a;subst a;have k:=qgh _ _ _ _ _ _ _ d;have e:t.length=(hd b.toNat).2.1:=by rw[kah]at k;omega
  refine⟨b,t,_,_,_,x,rfl,rfl,l,e,λf m p n i g=>?_,λq=>qyp j⟩;rw[<-e]at d ⊢;exact qkV f (b::t) m lim i n [] t p 1 _ x _ g (by simp) d
structure FmR(hd:Nat->Nat×Nat×Nat)(hB hL hM hT:Nat->List UInt8)(nt:Bool->List UInt8)(no:List UInt8)(nm:Int->List UInt8):Prop where
 b:∀n,n<4294967296->HdR hd (hB n) 7 n
 l:∀n,n<4294967296->HdR hd (hL n) 9 n
 m:∀n,n<4294967296->HdR hd (hM n) 10 n
 t:∀n,n<4294967296->HdR hd (hT n) 8 n
 tr:HdR hd (nt true) 3 0
 fa:HdR hd (nt false) 2 0
 no:HdR hd no 1 0
 nm:∀z,-9223372036854775808<=z->z<=9223372036854775807->NmR hd (nm z) z
theorem qzX:FmR qdM (qaj 2) (qaj 4) (qaj 5) (qaj 3) qrx (qaj 7 22) qfw :=
 ⟨λn h=>qgk 2 n (by decide) (by omega),λn h=>qgk 4 n (by decide) (by omega),λn h=>qgk 5 n (by decide) (by omega),λn h=>qgk 3 n (by decide) (by omega),qdt rfl,qdt rfl,qdt rfl,λz a b=>quv (qnX z 9 (by decide) a b)⟩
theorem qzD:FmR qcb qbr qbq qbm qa1 qrY [192] qfy :=
 ⟨qss,qte,qtW,qsq,qdt rfl,qdt rfl,qdt rfl,λz a b=>quv (qo3 z 9 (by decide) a b)⟩
theorem qui(bs:List UInt8)(lim:Int)(e:(bs.length:Int)<=lim)(rest:List UInt8):∀(l a:List UInt8) (p:Nat),bs.drop p=l++rest->qgs bs lim l.length p a=.ok (a++l,p+l.length)
 |[],a,p,_=>by simp[qgs]
 |c::l,a,p,hp=>by
  obtain⟨b,d,f⟩:=qak hp;rw[kah,qgs,b];simp only[];rw[kac (by omega),qui bs lim e rest l (a++[c]) (p+1) d,kap,show p+1+l.length=p+(l.length+1) by omega];rfl
theorem qsl(a:(bs.length:Int)<=lim)(b:bs.drop p=l++rest):qgs bs lim l.length p []=.ok (l,p+l.length):=qui bs lim a rest l [] p b
def Gd:Nat->DataW Unit->Prop
 |0,_=>False
 |k+1,d=>match d with
  |.nil=>True
  |.lit (.bool _)=>True
  |.lit (.int .i64 z)=>-9223372036854775808<=z/\z<=9223372036854775807
  |.lit (.string l)=>Vt l
  |.ptr (.lit (.string _))=>True
  |.agg ds=>1<=k/\∀x∈ds,Gd k x
  |.map es=>1<=k/\(es.map λe=>qaN e.1).Nodup/\∀e∈es,(∃l,e.1=.string l/\Vt l)/\Gd k e.2
  |_=>False
section
variable{hd:Nat->Nat×Nat×Nat} {hB hL hM hT:Nat->List UInt8} {nt:Bool->List UInt8} {no:List UInt8} {nm:Int->List UInt8}
theorem HdR.pos(h:HdR hd H so n):1<=H.length:=by
 obtain⟨c,t,_,_,rfl,_⟩:=h;simp
theorem qm9(h:HdR hd H so n)(f:¬so=0){depth:Int}(l:(bs.length:Int)<=lim){g wi:Nat}(o:so=9\/so=10->¬(wi:Int)=depth)(m:bs.drop p=H++rest):∃w,thB hd bs lim depth (g+1) wi p=qgw bs lim (λx q=>qbn (thB hd bs lim depth g (wi+1)) x q []) (λx q=>qa7 (qet hd bs lim) (thB hd bs lim depth g (wi+1)) x q [] []) so w n (p+H.length):=by
 obtain⟨c,t,w,a,rfl,i,j,k⟩:=h;obtain⟨b,d,r⟩:=qak m;refine⟨w,?_⟩;rw[qe6 b (by omega) i,kac f,kac (λe=>o e.1 e.2),k bs lim (p+1) rest l d];simp only[];rw[kah,j,show p+1+w=p+(w+1) by omega]
theorem qmV(rest:List UInt8):∀(ds acc:List (DataW Unit)) (p:Nat),(∀x∈ds,∀p r,bs.drop p=f x++r->rd p=.ok (x,p+(f x).length))->bs.drop p=ds.flatMap f++rest->qbn rd ds.length p acc=.ok (acc++ds,p+(ds.flatMap f).length)
 |[],acc,p,_,_=>by simp[qbn]
 |d::ds,acc,p,h,hp=>by
  rw[kaZ,kap]at hp;rw[kah,qbn,h d (ka5 ..) p _ hp];simp only[];rw[qmV rest ds (acc++[d]) _ (λx a=>h x (ka9 _ a)) (by rw[<-kbf,hp,kba]),kaZ,kaa,kap,kbm];rfl
theorem qyi(F:FmR hd hB hL hM hT nt no nm)(d:(bs.length:Int)<=lim)(s:bs.length<=999999999){ks:List (List UInt8)}(q:Vt l)(n:¬l∈ks)(b:bs.drop p=hT l.length++l++rest):qet hd bs lim ks p=.ok (l,p+(hT l.length++l).length):=by
 have u:l.length<=bs.length:=by
  have:=congrArg List.length b;simp only[kaR,kaa]at this;omega
 have h:=F.t l.length (by omega);rw[kap]at b;have o:bs.drop (p+(hT l.length).length)=l++rest:=by rw[<-kbf,b,kba]
 obtain⟨c,t,w,a,e,j,k,m⟩:=h;rw[e]at b;obtain⟨f,g,r⟩:=qak b;unfold qet;rw[f];simp only[];rw[kac (by omega),j];simp only[];rw[kag kcq,m bs lim (p+1) _ d g];simp only[];have i:p+1+w=p+(hT l.length).length:=by rw[e,kah,k];omega
 rw[i,qmJ d q o];simp only[];rw[kac n,kaa,kbm]
theorem qid(F:FmR hd hB hL hM hT nt no nm)(i:(bs.length:Int)<=lim)(g:bs.length<=999999999)(rest:List UInt8):∀(es acc:List (Lit×DataW Unit)) (ks:List (List UInt8)) (p:Nat),(es.map λe=>qaN e.1).Nodup->(∀e∈es,¬qaN e.1∈ks)->(∀e∈es,∃l,e.1=.string l/\Vt l)->(∀e∈es,∀p r,bs.drop p=f e.2++r->rd p=.ok (e.2,p+(f e.2).length))->bs.drop p=(es.flatMap λe=>(hT (qaN e.1).length++qaN e.1)++f e.2)++rest->qa7 (qet hd bs lim) rd es.length p ks acc=.ok (acc++es,p+(es.flatMap λe=>(hT (qaN e.1).length++qaN e.1)++f e.2).length)
 |[],acc,ks,p,_,_,_,_,_=>by simp[qa7]
 |e::es,acc,ks,p,hn,hk,hv,h,hp=>by
  obtain⟨l,c,k⟩:=hv e (ka5 ..);have d:qaN e.1=l:=by rw[c];rfl
  rw[kaZ,kap,kap]at hp;rw[kaH,List.nodup_cons]at hn;have o:=hk e (ka5 ..);have j:bs.drop (p+(hT (qaN e.1).length++qaN e.1).length)=f e.2++((es.flatMap λe=>(hT (qaN e.1).length++qaN e.1)++f e.2)++rest):=by rw[<-kbf,hp,kba]
  have n:=qyi F i g (ks:=ks) (l:=qaN e.1) (d▸k) o hp;rw[kah,qa7,n];simp only[];rw[h e (ka5 ..) _ _ j];simp only[];have m:(Lit.string (qaN e.1),e.2)=e:=by rw[d,<-c]
  rw[m,qid F i g rest es (acc++[e]) (qaN e.1::ks) _ hn.2 (λx a b=>?_) (λx a=>hv x (ka9 _ a)) (λx a=>h x (ka9 _ a)) (by rw[<-kbf,j,kba])]
  ·simp only[kaZ,kaa,kap,kbm,kbo,kbl]
  rcases kbR.1 b with b|b
  ·exact hn.1 (b▸kc6 a)
  exact hk x (ka9 _ a) b
theorem qus(F:FmR hd hB hL hM hT nt no nm):∀{k:Nat} {d:DataW Unit},Gd k d->(∀n,1<=(hB n).length/\1<=(hL n).length/\1<=(hM n).length/\1<=(hT n).length)->1<=(wrF hB hL hM hT nt no nm k d).length
 |0,_,h,_=>h.elim
 |k+1,d,h,hp=>by
  unfold Gd at h;unfold wrF;split at h
  ·exact F.no.pos
  ·next b=>cases b;exact F.fa.pos;exact F.tr.pos
  ·next z =>
   obtain⟨c,t,_,_,_,_,e,_⟩:=F.nm z h.1 h.2;simp only[e];simp
  ·next l=>have:=(hp l.length).2.2.2;simp only[kaa];omega
  ·next l=>have:=(hp l.length).1;simp only[kaa];omega
  ·next ds=>have:=(hp ds.length).2.1;simp only[kaa];omega
  ·next es=>have:=(hp es.length).2.2.1;simp only[kaa];omega
  exact h.elim
theorem qp3(F:FmR hd hB hL hM hT nt no nm)(q:∀n,1<=(hB n).length/\1<=(hL n).length/\1<=(hM n).length/\1<=(hT n).length)(bs:List UInt8)(lim depth:Int)(f:(bs.length:Int)<=lim)(u:bs.length<=999999999):∀(k g wi:Nat) (d:DataW Unit) (p:Nat) (rest:List UInt8),Gd k d->k<=g->(k:Int)+wi<=depth+1->bs.drop p=wrF hB hL hM hT nt no nm k d++rest->thB hd bs lim depth g wi p=.ok (d,p+(wrF hB hL hM hT nt no nm k d).length)
 |0,_,_,_,_,_,h,_,_,_=>h.elim
 |k+1,0,_,_,_,_,_,hg,_,_=>by omega
 |k+1,g+1,wi,d,p,rest,h,hg,hw,hp=>by
  have v:=qp3 F q bs lim depth f u k g (wi+1);have j:=congrArg List.length hp;rw[kaR,kaa]at j;unfold Gd at h;unfold wrF at hp j ⊢;split at h
  ·obtain⟨w,e⟩:=qm9 F.no (by decide) f (g:=g) (wi:=wi) (depth:=depth) (λe=>by omega) hp;exact e
  ·next b =>
   cases b
   ·obtain⟨w,e⟩:=qm9 F.fa (by decide) f (g:=g) (wi:=wi) (depth:=depth) (λe=>by omega) hp;exact e
   obtain⟨w,e⟩:=qm9 F.tr (by decide) f (g:=g) (wi:=wi) (depth:=depth) (λe=>by omega) hp;exact e
  ·next z =>
   obtain⟨c,t,L,w,a,x,e,C,J,D,E,o⟩:=F.nm z h.1 h.2;simp only[e]at hp ⊢;obtain⟨y,A,K⟩:=qak hp;rw[qe6 y (by omega) C,kac (by omega),kac (by omega),E bs lim (p+1) rest f A];simp only[];have B:p+1+w=p+(c::t).length:=by rw[kah,D];omega
   rcases J with rfl|rfl|rfl
   all_goals
    unfold qgw;simp only[]
    first
    |rw[show nbF 4 (w:Int) x _=Except.ok z from o _]
    |rw[show nbF 5 (w:Int) x _=Except.ok z from o _]
    |rw[show nbF 6 (w:Int) x _=Except.ok z from o _]
    simp only[];rw[B]
  ·next l =>
   simp only[kap]at hp;simp only[kaa]at j;obtain⟨w,e⟩:=qm9 (F.t l.length (by omega)) (by decide) f (g:=g) (wi:=wi) (depth:=depth) (λe=>by omega) hp;rw[e];unfold qgw;simp only[];rw[qmJ f h (rest:=rest) (by rw[<-kbf,hp,kba])];simp only[kaa,kbm]
  ·next l =>
   simp only[kap]at hp;simp only[kaa]at j;obtain⟨w,e⟩:=qm9 (F.b l.length (by omega)) (by decide) f (g:=g) (wi:=wi) (depth:=depth) (λe=>by omega) hp;rw[e];unfold qgw;simp only[];rw[qsl f (rest:=rest) (by rw[<-kbf,hp,kba])];simp only[kaa,kbm]
  ·next ds =>
   simp only[kap]at hp;simp only[kaa]at j;have G:=qcW (wrF hB hL hM hT nt no nm k) ds (λx i=>qus F (h.2 x i) q);obtain⟨w,e⟩:=qm9 (F.l ds.length (by omega)) (by decide) f (g:=g) (wi:=wi) (depth:=depth) (λ_=>by have:=h.1;omega) hp;rw[e];unfold qgw;simp only[];rw[qmV rest ds [] _ (λx i p r s=>v x p r (h.2 x i) (by omega) (by omega) s) (by rw[<-kbf,hp,kba])];simp only[kaa,kbm,kbl]
  ·next es =>
   simp only[kap]at hp;simp only[kaa]at j;have G:=qcW (λe:Lit×DataW Unit=>(hT (qaN e.1).length++qaN e.1)++wrF hB hL hM hT nt no nm k e.2) es (λx i=>by have:=qus F (h.2.2 x i).2 q;simp only[kaa];omega);obtain⟨w,e⟩:=qm9 (F.m es.length (by omega)) (by decide) f (g:=g) (wi:=wi) (depth:=depth) (λ_=>by have:=h.1;omega) hp;rw[e];unfold qgw;simp only[];have I:bs.drop (p+(hM es.length).length)=(es.flatMap λe=>(hT (qaN e.1).length++qaN e.1)++wrF hB hL hM hT nt no nm k e.2)++rest:=by rw[<-kbf,hp,kba];simp only[kap]
   rw[qid F f u rest es [] [] _ h.2.1 (λ_ _ H=>by cases H) (λx i=>(h.2.2 x i).1) (λx i p r s=>v x.2 p r (h.2.2 x i).2 (by omega) (by omega) s) I];simp only[kaa,kbm,kbl,kap]
  exact h.elim
end

theorem qkY(c:UInt8):(c.toNat<128/\qcL c=1)\/(194<=c.toNat/\c.toNat<224/\qcL c=2/\qfj c=128/\qhh c=191)\/(224<=c.toNat/\c.toNat<240/\qcL c=3/\qfj c=(if c.toNat=224 then 160 else 128)/\qhh c=(if c.toNat=237 then 159 else 191))\/(240<=c.toNat/\c.toNat<245/\qcL c=4/\qfj c=(if c.toNat=240 then 144 else 128)/\qhh c=(if c.toNat=244 then 143 else 191))\/((128<=c.toNat/\c.toNat<194\/245<=c.toNat)/\qcL c=0):=by
 unfold qcL qfj qhh
 repeat' split
 all_goals omega
theorem ch1(h:b.toNat<128):Ch [b]:=⟨b,[],rfl,by have:=qkY b;simp;omega,λj c a=>by cases a⟩
theorem q0h(h:qfj c0<=b.toNat/\b.toNat<=qhh c0):qbF c0 1 b=false:=by
 cases e:qbF c0 1 b with
 |false=>rfl
 |true=>have:=(qiP c0 b).1 e;omega
theorem q0b(a:1<j)(h:128<=b.toNat/\b.toNat<=191):qbF c0 j b=false:=by
 cases e:qbF c0 j b with
 |false=>rfl
 |true=>have:=(qdO c0 b j a).1 e;omega
theorem ch2(e:194<=a.toNat/\a.toNat<224)(f:128<=b.toNat/\b.toNat<=191):Ch [a,b]:=by
 have h:=qkY a;refine⟨a,[b],rfl,by simp;omega,λj c d=>?_⟩
 match j with
 |0=>cases d;exact q0h (by omega)
theorem ch3(l:224<=a.toNat/\a.toNat<240)(m:128<=b.toNat/\b.toNat<=191)(g:a.toNat=224->160<=b.toNat)(i:a.toNat=237->b.toNat<=159)(k:128<=c.toNat/\c.toNat<=191):Ch [a,b,c]:=by
 have h:=qkY a;refine⟨a,[b,c],rfl,by simp;omega,λj x f=>?_⟩
 match j with
 |0 =>
  cases f;refine q0h ?_;by_cases d:a.toNat=224
  ·simp[d]at h;have:=g d;omega
  by_cases e:a.toNat=237
  ·simp[e]at h;have:=i e;omega
  simp[d,e]at h;omega
 |1=>cases f;exact q0b (by decide) k
theorem ch4{d:UInt8}(n:240<=a.toNat/\a.toNat<245)(o:128<=b.toNat/\b.toNat<=191)(i:a.toNat=240->144<=b.toNat)(k:a.toNat=244->b.toNat<=143)(l:128<=c.toNat/\c.toNat<=191)(m:128<=d.toNat/\d.toNat<=191):Ch [a,b,c,d]:=by
 have h:=qkY a;refine⟨a,[b,c,d],rfl,by simp;omega,λj x g=>?_⟩
 match j with
 |0 =>
  cases g;refine q0h ?_;by_cases e:a.toNat=240
  ·simp[e]at h;have:=i e;omega
  by_cases f:a.toNat=244
  ·simp[f]at h;have:=k f;omega
  simp[e,f]at h;omega
 |1=>cases g;exact q0b (by decide) l
 |2=>cases g;exact q0b (by decide) m
theorem qdi(h:x<256):(UInt8.ofNat x).toNat=x:=by rw[kbs,kaQ h]
theorem qqw(r:Int):Ch (qbP r):=by
 unfold qbP encodeRuneZ;split
 ·exact ch1 (by rw[qdi (by omega)];omega)
 split
 ·exact ch2 (by rw[qdi (by omega)];omega) (by rw[qdi (by omega)];omega)
 split
 ·exact ch3 (by rw[qdi (by omega)];omega) (by rw[qdi (by omega)];omega) (by rw[qdi (by omega),qdi (by omega)];omega) (by rw[qdi (by omega),qdi (by omega)];omega) (by rw[qdi (by omega)];omega)
 split
 ·exact ch4 (by rw[qdi (by omega)];omega) (by rw[qdi (by omega)];omega) (by rw[qdi (by omega),qdi (by omega)];omega) (by rw[qdi (by omega),qdi (by omega)];omega) (by rw[qdi (by omega)];omega) (by rw[qdi (by omega)];omega)
 exact ch3 (by decide) (by decide) (by decide) (by decide) (by decide)
theorem qhI(h:x=b.toNat):UInt8.ofNat x=b:=kcY.1 (by rw[qdi (by have:=b.toNat_lt;omega),h])
theorem q0k(h:ChT c0 (b::l)):qfj c0<=b.toNat/\b.toNat<=qhh c0:=by
 have a:=h 0 b rfl;have:=(not_congr (qiP c0 b)).1 (by rw[a];decide);omega
theorem qzQ(h:ChT c0 l)(c:l[j+1]?=some b):128<=b.toNat/\b.toNat<=191:=by
 have a:=h (j+1) b c;have:=(not_congr (qdO c0 b (j+1+1) (by omega))).1 (by rw[a];decide);omega
theorem quX(h:Ch ch):∃r:Nat,(∀g,decodeL (ch++g)=(r,ch.length))/\qbP r=ch/\(r<128->∃b,ch=[b]/\b.toNat=r)/\(128<=r->∃a l,ch=a::l/\128<=a.toNat):=by
 obtain⟨a,l,rfl,q,i⟩:=h;have v:=a.toNat_lt;rcases qkY a with⟨k,o⟩|⟨k,o,p,m,n⟩|⟨k,o,p,m,n⟩|⟨k,o,p,m,n⟩|⟨_,k⟩
 ·obtain rfl:l=[]:=ka7 (by omega);refine⟨a.toNat,λg=>decodeL_ascii a g k,?_,λ_=>⟨a,rfl,rfl⟩,λe=>by omega⟩;unfold qbP;rw[encodeRuneZ_one (by omega) (by omega)];exact congrArg (·::[]) (qhI (by omega))
 ·obtain⟨b,rfl⟩:∃b,l=[b]:=List.length_eq_one_iff.1 (by omega);have f:=q0k i;rw[m,n]at f;refine⟨a.toNat%32*64+b.toNat%64,λg=>?_,?_,λe=>by omega,λ_=>⟨a,[b],rfl,by omega⟩⟩
  ·rw[decodeL_N];show decodeN (g.length+1+1) a.toNat b.toNat _ _=_;unfold decodeN;rw[kac (by omega),kag (by omega),kag (by omega)];rfl
  unfold qbP;rw[encodeRuneZ_two (by omega) (by omega)];simp only[kaH,kb8];rw[qhI (b:=a) (by omega),qhI (b:=b) (by omega)]
 ·obtain⟨b,c,rfl⟩:∃b c,l=[b,c]:=by
   match l,q with
   |[b,c],_=>exact⟨b,c,rfl⟩
   |[],h=>simp at h;omega
   |[_],h=>simp at h;omega
   |_::_::_::_,h=>simp at h;omega
  have f:=q0k i;have s:=qzQ (j:=0) i rfl;rw[m,n]at f;have t:128<=b.toNat/\b.toNat<=191/\(a.toNat=224->160<=b.toNat)/\(a.toNat=237->b.toNat<=159):=by
   split at f<;>split at f<;>omega
  refine⟨a.toNat%16*4096+b.toNat%64*64+c.toNat%64,λg=>?_,?_,λe=>by omega,λ_=>⟨a,_,rfl,by omega⟩⟩
  ·rw[decodeL_N];show decodeN (g.length+1+1+1) a.toNat b.toNat c.toNat _=_;unfold decodeN;rw[kac (by omega),kac (by omega),kag (by omega),kag (by omega)];rfl
  unfold qbP;rw[encodeRuneZ_three (by omega)];simp only[kaH,kb8];rw[qhI (b:=a) (by omega),qhI (b:=b) (by omega),qhI (b:=c) (by omega)]
 ·obtain⟨b,c,d,rfl⟩:∃b c d,l=[b,c,d]:=by
   match l,q with
   |[b,c,d],_=>exact⟨b,c,d,rfl⟩
   |[],h=>simp at h;omega
   |[_],h=>simp at h;omega
   |[_,_],h=>simp at h;omega
   |_::_::_::_::_,h=>simp at h;omega
  have f:=q0k i;have s:=qzQ (j:=0) i rfl;have u:=qzQ (j:=1) i rfl;rw[m,n]at f;have t:128<=b.toNat/\b.toNat<=191/\(a.toNat=240->144<=b.toNat)/\(a.toNat=244->b.toNat<=143):=by
   split at f<;>split at f<;>omega
  refine⟨a.toNat%8*262144+b.toNat%64*4096+c.toNat%64*64+d.toNat%64,λg=>?_,?_,λe=>by omega,λ_=>⟨a,_,rfl,by omega⟩⟩
  ·rw[decodeL_N];show decodeN (g.length+1+1+1+1) a.toNat b.toNat c.toNat d.toNat=_;unfold decodeN;rw[kac (by omega),kac (by omega),kac (by omega),kag (by omega),kag (by omega)];rfl
  unfold qbP;rw[encodeRuneZ_four (by omega) (by omega)];simp only[kaH,kb8];rw[qhI (b:=a) (by omega),qhI (b:=b) (by omega),qhI (b:=c) (by omega),qhI (b:=d) (by omega)]
 omega

theorem qkp(bs:List UInt8)(lim:Int):∀(g p:Nat) (b a l:List UInt8) (q:Nat),Vt b->Pd a->qcU bs lim g p (b++a) b.length=.ok (l,q)->Vt l
 |0,p,b,a,l,q,_,_,h=>by
  rw[qcU]at h;cases h
 |g+1,p,b,a,l,q,h1,h2,h=>by
  have j:∀(x:List UInt8) (p:Nat),Ch x->qcU bs lim g p (b++(a++x)) (b++(a++x)).length=.ok (l,q)->Ch (a++x)->Vt l:=λx p _ f k=>by
   have:=qkp bs lim g p (b++(a++x)) [] l q (qlJ h1 k) (.inl rfl);rw[kbj]at this;exact this f
  rw[qcU]at h;split at h
  ·cases h
  next c hc =>
  split at h
  ·cases h
  split at h
  ·next e =>
   have:a=[]:=ka7 (by have:=e.2;rw[kaa]at this;omega);subst this;rw[kbj]at h;cases h;exact h1
  split at h
  ·next e =>
   have:a=[]:=ka7 (by have:=e.2;rw[kaa]at this;omega);subst this;split at h
   ·cases h
   next r q2 _ =>
   rw[kap]at h;exact j _ _ (qqw r) h (qqw r)
  split at h
  ·cases h
  rw[kba]at h;split at h
  ·cases h
  next ha =>
  rw[kap]at h;rcases qpp h2 ha with⟨e,d⟩|⟨e,i⟩
  ·rw[kag e]at h;have:=qkp bs lim g (p+1) (b++(a++[c])) [] l q (qlJ h1 d) (.inl rfl);rw[kbj]at this;refine this ?_;rw[<-h];congr 1;simp;omega
  rw[kac e]at h;exact qkp bs lim g (p+1) b (a++[c]) l q h1 i h
theorem qmN(bs:List UInt8)(lim:Int)(s:(bs.length:Int)<=lim)(b:UInt8)(d:List UInt8)(k:Nat)(rest:List UInt8):∀(m a:List UInt8) (p:Nat),m≠[]->a.length+m.length+1=qcL b->ChT b (a++m)->bs.drop p=m++rest->qcU bs lim (m.length+k) p (d++b::a) d.length=qcU bs lim k (p+m.length) (d++b::(a++m)) (d++b::(a++m)).length
 |[],_,_,h,_,_,_=>absurd rfl h
 |c::m,a,p,_,hk,ht,hd=>by
  obtain⟨o,q,t⟩:=qak hd;have g:qbF b (a.length+1) c=false:=ht a.length c (by rw[kas (kaf _),kcO];rfl);have l:a.length+1<qcL b:=by simp at hk;omega
  have r:¬c.toNat<32:=λe=>by have:=qxe b c (a.length+1) (by omega) (by omega) e;rw[g]at this;cases this
  rw[show(c::m).length+k=m.length+k+1 by simp;omega,qcU,o];simp only[];rw[kac (by omega),kac (by simp),kac (by simp),kac r,kba];have n:d++b::a++[c]=d++b::(a++[c]):=by simp
  have j:a++[c]++m=a++c::m:=by simp
  rw[n];by_cases i:m=[]
  ·subst i;have f:qb7 (b::a) c=2:=by rw[qk8 b a c l,g,kac (by simp),kag (by simp at hk;omega)]
   rw[f,kac (by decide),kag rfl];have:(d++b::a).length+1=(d++b::(a++[c])).length:=by simp;omega
   rw[this];simp
  have u:=kc5.2 i;have f:qb7 (b::a) c=1:=by rw[qk8 b a c l,g,kac (by simp),kac (by simp at hk;omega)]
  have:=qmN bs lim s b d k rest m (a++[c]) (p+1) i (by simp at hk ⊢;omega) (by rw[j];exact ht) q;rw[j]at this;rw[f,kac (by decide),kac (by decide),this,show p+1+m.length=p+(c::m).length by simp;omega]
theorem qvZ(bs:List UInt8)(lim:Int)(i:(bs.length:Int)<=lim)(f:Ch (c0::l))(n:32<=c0.toNat/\¬c0.toNat=34/\¬c0.toNat=92)(a:List UInt8)(k p:Nat)(rest:List UInt8)(g:bs.drop p=c0::l++rest):qcU bs lim ((c0::l).length+k) p a a.length=qcU bs lim k (p+(c0::l).length) (a++c0::l) (a++c0::l).length:=by
 obtain⟨m,q,e,h,j⟩:=f;injection e with e1 e2;subst e1 e2;obtain⟨b,d,o⟩:=qak g;rw[show(c0::l).length+k=l.length+k+1 by simp;omega,qcU,b];simp only[];rw[kac (by omega),kac (by omega),kac (by omega),kac (by omega),kcp];by_cases b:qcL c0=1
 ·have:l=[]:=ka7 (by omega);subst this;have c:qb7 [] c0=2:=by rw[qd6,kac (by omega),kag b]
  rw[c,kac (by decide),kag rfl];simp
 have c:qb7 [] c0=1:=by rw[qd6,kac (by omega),kac b]
 rw[c,kac (by decide),kac (by decide)];have:=qmN bs lim i c0 a k rest l [] (p+1) (by intro e;subst e;simp at h;omega) (by simp;omega) j d;rw[this,show p+1+l.length=p+(c0::l).length by simp;omega];rfl
def qly(ch:List UInt8):List UInt8:=qjQ (decodeL ch).1
theorem qu0:∀(chs:List (List UInt8)) (g:Nat),(∀ch∈chs,Ch ch)->chs.flatten.length<=g->qdC g chs.flatten=chs.flatMap qly
 |[],g,_,_=>qjW g
 |ch::chs,g,h,hg=>by
  have c:=h ch (ka5 ..);obtain⟨r,a,_⟩:=quX c;obtain⟨j,l,e,_⟩:=c;have f:ch++chs.flatten≠[]:=by rw[e];simp
  have k:1<=ch.length:=by rw[e];simp
  rw[kdq,kaa]at hg;obtain⟨g,rfl⟩:∃d,g=d+1:=⟨g-1,by omega⟩
  rw[kdq,qio g _ f,a,kba,kaZ,qu0 chs g (λx i=>h x (ka9 _ i)) (by omega)];have b:=a [];rw[kbj]at b;unfold qly;rw[b]
theorem qxL:∀x:Fin 16,qra (qeY x.val)=some x.val:=by decide
theorem qjI(g:(bs.length:Int)<=lim){a:Nat}(d:x<16)(c:bs.drop p=qeY x::r):qf5 bs lim (k+1) p a=qf5 bs lim k (p+1) (a*16+x):=by
 obtain⟨b,e,f⟩:=qak c;rw[qf5,b];simp only[];rw[kac (by omega),qxL ⟨x,d⟩]
theorem qxl(a:(bs.length:Int)<=lim){r:Nat}(j:r<32)(g:bs.drop p=[117,48,48,qeY (r/16),qeY (r%16)]++rest):qlv bs lim p=.ok ((r:Int),p+5):=by
 obtain⟨e,b,i⟩:=qak g;obtain⟨_,c,_⟩:=qak b;obtain⟨_,d,_⟩:=qak c;obtain⟨_,f,_⟩:=qak d;have h:qf5 bs lim 4 (p+1) 0=.ok (r,p+5):=by
  rw[qjI (x:=0) a (by decide) b,qjI (x:=0) a (by decide) c,qjI (x:=r/16) a (by omega) d,qjI (x:=r%16) a (by omega) f,qf5];congr 2;omega
 unfold qlv;rw[e];simp only[];rw[kac (by omega)];show qfl bs lim (p+1)=_;unfold qfl;rw[h];simp only[];rw[kac (by unfold qvo;simp;omega),kac (by unfold qyT;simp;omega)]
theorem quy(bs:List UInt8)(lim:Int)(s:(bs.length:Int)<=lim)(rest:List UInt8):∀(chs:List (List UInt8)) (g p:Nat) (acc:List UInt8),(∀ch∈chs,Ch ch)->bs.drop p=chs.flatMap qly++34::rest->(chs.flatMap qly).length+1<=g->qcU bs lim g p acc acc.length=.ok (acc++chs.flatten,p+(chs.flatMap qly).length+1)
 |[],g,p,acc,_,hd,hg=>by
  obtain⟨q,e,G⟩:=qak (show bs.drop p=34::rest from hd);obtain⟨g,rfl⟩:∃a,g=a+1:=⟨g-1,by omega⟩
  rw[qcU,q];simp only[];rw[kac (by omega),kag (by simp)];simp
 |ch::chs,g,p,acc,h,hd,hg=>by
  have y:=h ch (ka5 ..);obtain⟨r,B,u,C,D⟩:=quX y;have v:=B [];rw[kbj]at v;have z:=λg p=>quy bs lim s rest chs g p (acc++ch) (λx J=>h x (ka9 _ J));rw[kaZ,kap]at hd;rw[kaZ,kaa]at hg ⊢;rw[kdq,<-kap];have k:bs.drop (p+(qly ch).length)=chs.flatMap qly++34::rest:=by rw[<-kbf,hd,kba]
  have n:qly ch=qjQ r:=by unfold qly;rw[v]
  have w:∀(t:List UInt8) (a:Nat),qly ch=92::t->g=a+1->qlv bs lim (p+1)=.ok ((r:Int),p+1+t.length)->qcU bs lim g p acc acc.length=.ok (acc++ch++chs.flatten,p+((qly ch).length+(chs.flatMap qly).length)+1):=λt a d i I=>by
   rw[d]at hd k hg ⊢;obtain⟨q,e,G⟩:=qak hd;subst i;rw[qcU,q];simp only[];rw[kac (by omega),kac (by decide),kag (by simp),I];simp only[];rw[u,show p+1+t.length=p+(92::t).length by simp;omega,z a _ k (by rw[kah]at hg;omega)];rw[kbm p]
  obtain⟨a,i⟩:∃a,g=a+1:=⟨g-1,by omega⟩
  by_cases f:r=34\/r=92
  ·have d:qly ch=[92,UInt8.ofNat r]:=by rw[n];unfold qjQ;rw[kag f]
   refine w _ a d i ?_;rw[d]at hd;obtain⟨_,e,_⟩:=qak hd;obtain⟨H,_,K⟩:=qak e;unfold qlv;rw[H];simp only[];rw[kac (by omega)];rcases f with rfl|rfl<;>rfl
  by_cases m:r<32
  ·have d:qly ch=[92,117,48,48,qeY (r/16),qeY (r%16)]:=by rw[n];unfold qjQ;rw[kac f,kag m]
   refine w _ a d i ?_;rw[d]at hd;obtain⟨_,e,_⟩:=qak hd;exact qxl s m e
  have d:qly ch=ch:=by rw[n];unfold qjQ;rw[kac f,kac m,u]
  rw[d]at hd k hg ⊢;obtain⟨c,l,rfl,F⟩:∃c l,ch=c::l/\(32<=c.toNat/\¬c.toNat=34/\¬c.toNat=92):=by
   by_cases A:r<128
   ·obtain⟨b,o,E⟩:=C A;exact⟨b,[],o,by omega⟩
   obtain⟨c,l,o,E⟩:=D (by omega);exact⟨c,l,o,by omega⟩
  obtain⟨j,rfl⟩:∃j,g=(c::l).length+j:=⟨g-(c::l).length,by omega⟩
  rw[qvZ bs lim s y F acc j p _ hd,z j _ k (by omega),kbm p]
theorem quq(i:(bs.length:Int)<=lim)(h:Vt l)(b:bs.drop p=jsT l++rest):bs[p]?=some 34/\p<bs.length/\qcU bs lim (bs.length+1-(p+1)) (p+1) [] 0=.ok (l,p+(jsT l).length):=by
 obtain⟨a,c,rfl⟩:=h;have e:jsT a.flatten=34::(a.flatMap qly++[34]):=by
  unfold jsT;rw[qu0 a _ c (kaf _)];rfl
 rw[e]at b ⊢;obtain⟨d,f,g⟩:=qak b;have j:=congrArg List.length b;simp only[kaR,kaa,kah,kay]at j;refine⟨d,g,?_⟩;have:=quy bs lim i rest a (bs.length+1-(p+1)) (p+1) [] c (by rw[f];simp) (by omega);rw[show([]:List UInt8).length=0 from rfl]at this;rw[this,kbl];congr 2;simp;omega

end
end Go.Proofs.YtmajcjammmjimaaGreatDoor
