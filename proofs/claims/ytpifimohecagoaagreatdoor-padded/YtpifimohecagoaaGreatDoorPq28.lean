import Derived.Test.YtpifimohecagoaaGreatDoorPq27
set_option maxRecDepth 100000
set_option maxHeartbeats 8000000
namespace Go.Proofs.YtpifimohecagoaaGreatDoor
open Go.Proofs.Tryz
variable{N base p:Nat}{V V' W:World}{cs:Array Value}{v v':Value}{bs cur r:List UInt8}{c:UInt8}{lim:Int}
section
open Go.RowKit Go.Lib
def qeU(T:DataW Unit->List UInt8)(e:Lit×DataW Unit):List UInt8:=(jsT (qaG e.1)++[58])++T e.2
structure qoV(base:Nat)(W:World)(N:Nat)(cs:Array Value)(v:Value)(cur:List UInt8)(V:World):Prop where
 own:Own V base v cur
 below:Below base W V
 row:V.heap[N]?=some (.cells cs 198)
theorem qoV.app{o:Obj}{b:UInt8}(h:qoV base W N cs v cur V)(f:V'.ownsRow base 5 1 v' (cur.length+1) (cur.map qax++[qax b]))(d:(V.alloc o).grownBy V' v.ownBlock):qoV base W N cs v' (cur++[b]) V':=by
 have a:=qa3 ((Below.refl base V).alloc h.own.2.1 _) (h.own.1.alloc _) d (by have:=h.own.2.1;simp;omega);refine⟨⟨by rw[List.length_append,List.map_append];exact f,Nat.le_trans h.own.2.1 a.size,?_⟩,h.below.trans a,?_⟩
 ·rcases f.2 with⟨e,_⟩|⟨g,i,c,e,_⟩
  ·exact⟨none,0,0,e⟩
  exact⟨_,_,_,e⟩
 exact((qeK V o).trans (qe8 (h.own.1.alloc o) d)) N cs _ _ h.row (by decide)
theorem qoV.said{l:List UInt8}(h:qoV base W N cs v cur V)(c:Own V' base v' (cur++l))(a:Below base V V')(b:KpU V V'):qoV base W N cs v' (cur++l) V' :=
 ⟨c,h.below.trans a,b N cs _ _ h.row (by decide)⟩
theorem qn3(h:Own W base v bs)(d:0<bs.length):∃g a,v=.slice (some ⟨g,0,none⟩) bs.length a:=by
 rcases h.1.2 with⟨_,b⟩|⟨g,a,c,b,_⟩
 ·omega
 exact⟨g,a,b⟩
theorem ql1(l:List UInt8):0<(jsT l).length:=by simp[jsT]
theorem qwB(T:DataW Unit->List UInt8)(W:World)(f:Nat)(v:Value)(q:Option Addr)(ao:Nat)(F:Nat->Prop)(hF:∀k,F k->k<f)(bs:List UInt8)(b:List (Lit×DataW Unit))(xs:List Value)(hl:bs.length+(qci (qeU T) b).length+2<=999999999)(hn:b.length<=999999999)(o:qb7 W 198 2 F (.slice q b.length ao) b.length xs)(ay:∀(am:Nat) (t:Lit) (d:DataW Unit),b[am]?=some (t,d)->∃l aq y,t=.string l/\xs[2*am]?=some (.string ⟨l.toArray⟩)/\xs[2*am+1]?=some (.iface aq y)/\qe2 W f (.iface aq y) (T d))(h:Own W f v bs):Calls prog 106 #[v,.slice q b.length ao] W λe W'=>∃I,e=.returned I/\Own W' f I (((bs++[123])++qci (qeU T) b)++[125])/\Below f W W':=by
 obtain⟨V,P,R,S,U⟩:=info_parts Tryz.infoU8;obtain⟨a6,bf,a8,rfl⟩:=h.2.2;have K:=qab h;have HU:=qab o;have HI:=qab ay;go_enter func106,ntmps106
 go_wp2_with(first
  |(at_builtin;refine wpList_append_own _ rfl _ _ 35 rfl f 5 V (.int .u8 0) 1 1 underlying35 P R S U rfl (by decide) _ _ _ rfl (K.out.1.alloc _) ⟨W.heap.size,0,none⟩ 1 1 [.int .u8 123] rfl rfl (qag _ _ _) (λu o=>by simp at o;subst o;rfl) (by unfold maxLen;omega) (by omega) (by simp;have:=K.out.2.1;omega) ?_;intro I w2 p B j;obtain⟨aw,av,rfl⟩:=ownsRow_succ p;have an:=qab (qa3 ((Below.refl _ _).alloc K.out.2.1 _) (K.out.1.alloc _) B (by simp;have:=K.out.2.1;omega));have ar:Hid (Own w2 f (.slice (some ⟨aw,0,none⟩) _ av) (bs++[123])):=⟨qbR p rfl,Nat.le_trans K.out.2.1 an.out.size,_,_,_,rfl⟩))
 go_loopg[0,12] b.length (λg y z wr=>∃(k:Nat) (c:Option Addr) (i n:Nat),y=.slice c i n/\z=.int .i64 k/\Hid (k+g=b.length)/\Hid (Own wr f (.slice c i n) ((bs++[123])++qci (qeU T) (b.take k)))/\Hid (Below f W wr))
 case atStart=>exact⟨0,_,_,_,rfl,rfl,by show _=_;omega,by simpa[qci]using ar,an⟩
 case round =>
  obtain⟨k,c,i,n,rfl,rfl,Q,s,a⟩:=hrel;have a1:((bs++[123])++qci (qeU T) (b.take k)).length<=999999998:=by
   have:=qfY (qeU T) b k;simp only[List.length_append,List.length_cons,List.length_nil];omega
  obtain⟨m,J⟩:∃m,Hid ((bs++[123])++qci (qeU T) (b.take k)=m):=⟨_,show _=_ from rfl⟩
  rw[J.out]at s a1
  cases gk with
  |zero =>
   have a2:¬(k:Int)<b.length:=by have:=Q.out;omega
   have H:Hid (b.take k=b):=by show _=_;exact List.take_of_length_le (by have:=Q.out;omega)
   go_wp2_with(first
    |(at_builtin;refine wpList_append_own _ rfl _ _ 35 rfl f 5 V (.int .u8 0) 1 1 underlying35 P R S U rfl (by decide) _ _ _ rfl (s.out.1.alloc _) ⟨wr.heap.size,0,none⟩ 1 1 [.int .u8 125] rfl rfl (qag _ _ _) (λu o=>by simp at o;subst o;rfl) (by unfold maxLen;omega) (by omega) (by simp;have:=s.out.2.1;omega) ?_;intro I w4 p B j;obtain⟨ag,ae,rfl⟩:=ownsRow_succ p;have aa:=qab (qa3 ((Below.refl _ _).alloc s.out.2.1 _) (s.out.1.alloc _) B (by simp;have:=s.out.2.1;omega));have au:Hid (Own w4 f (.slice (some ⟨ag,0,none⟩) _ ae) (m++[125])):=⟨qbR p rfl,Nat.le_trans s.out.2.1 aa.out.size,_,_,_,rfl⟩))
   go_ret;have he:m++[125]=((bs++[123])++qci (qeU T) b)++[125]:=by rw[<-J.out,H.out]
   have h4:=au.out;rw[he]at h4
   first|exact⟨_,rfl,h4,a.out.trans aa.out⟩|exact⟨_,rfl,by simpa using h4,a.out.trans aa.out⟩
  |succ g =>
   have a0:k<b.length:=by have:=Q.out;omega
   have a2:(k:Int)<b.length:=by omega
   have HR:=HU.out.same (V':=wr) (G:=F) (λ_ h=>h) (λap hj=>a.out.block ap (hF ap hj));obtain⟨q0,rfl⟩:∃q0,q=some ⟨q0,0,none⟩:=by
    rcases HR.2 with⟨_,e⟩|⟨g,a9,m,e,_⟩
    ·omega
    injection e with e1 e2 e3;exact⟨g,e1⟩
   obtain⟨⟨t,d⟩,hd⟩:∃d,b[k]?=some d:=⟨b[k],List.getElem?_eq_getElem a0⟩
   obtain⟨l,C,D,rfl,a4,a5,hI⟩:=HI.out k t d hd;have ba:wr.cell? ⟨q0,k*2,none⟩=some (.string ⟨l.toArray⟩):=by
    have:=HR.cell (2*k) _ a4;have e:(⟨q0,0,none⟩:Addr).add (2*k)=⟨q0,k*2,none⟩:=by by_cases h:2*k=0<;>simp only[Addr.add,h,Nat.zero_add,Nat.mul_comm k 2,if_true,if_false]
    rwa[e]at this
   have bb:wr.cell? ⟨q0,k*2+1,none⟩=some (.iface C D):=by
    have:=HR.cell (2*k+1) _ a5;have e:(⟨q0,0,none⟩:Addr).add (2*k+1)=⟨q0,k*2+1,none⟩:=by simp[Addr.add,Nat.mul_comm]
    rwa[e]at this
   have L:Hid (qoV f W wr.heap.size #[.string ⟨l.toArray⟩,.iface C D] (.slice c i n) m (wr.alloc (.cells #[.string ⟨l.toArray⟩,.iface C D] 198))):=⟨⟨s.out.1.alloc _,by have:=s.out.2.1;simp;omega,_,_,_,rfl⟩,a.out.trans ((Below.refl f wr).alloc s.out.2.1 _),qac _ _⟩
   have HJ:=qab hI;have al:=qfY (qeU T) b (k+1);have bc:(qeU T (.string l,d)).length=(jsT l).length+1+(T d).length:=by simp[qeU,qaG];omega
   by_cases az:k=0
   ·subst az;have H:=qab (qiw (qeU T) b (.string l,d) hd);have hL:m.length+(jsT l).length+1+(T d).length+1<=999999999:=by
     rw[H.out]at al;rw[<-J.out];simp only[List.length_append,List.length_cons,List.length_nil,List.take_zero,qci];omega
    have HE:Hid (((m++jsT l)++[58])++T d=(bs++[123])++qci (qeU T) (b.take (0+1))):=by
     show _=_;rw[H.out,<-J.out];simp[qeU,qaG,qci]
    have O:=qjk _ f _ ⟨l.toArray⟩ m (by show _+(jsT l).length<=_;omega) L.out.own;have e9:jsT (⟨l.toArray⟩:ByteArray).data.toList=jsT l:=rfl;rw[e9]at O
    go_wp2_with(first
     |(go_at_call 104;refine O.mono ?_;rintro e Y ⟨v5,rfl,h5,ai,ak⟩;obtain⟨r,E⟩:∃z,Hid (m++jsT l=z):=⟨_,show _=_ from rfl⟩;have w:Hid (0<r.length/\r.length+1+(T d).length+1<=999999999):=(by rw[<-E.out];have:=ql1 l;simp only[List.length_append];exact⟨by omega,by omega⟩);have x:Hid (qoV f W wr.heap.size #[.string ⟨l.toArray⟩,.iface C D] v5 r Y):=(by rw[<-E.out];exact L.out.said h5 ai ak);obtain⟨g5,c5,rfl⟩:=qn3 x.out.own w.out.1)
     |(at_builtin;refine wpList_append_own _ rfl _ _ 35 rfl f 5 V (.int .u8 0) 1 1 underlying35 P R S U rfl (by decide) _ _ _ rfl (x.out.own.1.alloc _) ⟨Y.heap.size,0,none⟩ 1 1 [.int .u8 58] rfl rfl (qag _ _ _) (λu o=>by simp at o;subst o;rfl) (by have:=w.out.2;unfold maxLen;omega) (by have:=w.out.2;omega) (by have:=x.out.own.2.1;simp only[World.size_alloc]at this ⊢;omega) ?_;intro I Z p B j;obtain⟨ah,af,rfl⟩:=ownsRow_succ p;have A:Hid (qoV f W wr.heap.size #[.string ⟨l.toArray⟩,.iface C D] (.slice (some ⟨ah,0,none⟩) (r.length+1) af) (r++[58]) Z):=x.out.app p B;have ax:=qaa A.out.row 1)
     |(go_at_call 85;refine(HJ.out Z _ _ A.out.below A.out.own (by have:=w.out.2;simp only[List.length_append,List.length_cons,List.length_nil];omega)).mono ?_;rintro e w7 ⟨v7,rfl,h7,aj⟩;obtain⟨o7,b7,M,X,N,rfl⟩:=h7;have ac:Hid (Own w7 f (.slice M X N) ((r++[58])++T d)):=⟨o7,b7,_,_,_,rfl⟩;have ab:=qab (A.out.below.trans aj)))
    go_roundg g
    case measure=>omega
    case rel=>exact⟨1,M,X,N,rfl,by go_num,by show _=_;have:=Q.out;omega,by have h:=ac.out;rw[<-E.out,HE.out]at h;exact h,ab⟩
   have H:=qab (qjN (qeU T) b k (by omega) (.string l,d) hd);have be:(0:Int)<(k:Int):=by omega
   have hL:m.length+1+(jsT l).length+1+(T d).length+1<=999999999:=by
    rw[H.out]at al;rw[<-J.out];simp only[List.length_append,List.length_cons,List.length_nil]at al ⊢;omega
   have HE:Hid ((((m++[44])++jsT l)++[58])++T d=(bs++[123])++qci (qeU T) (b.take (k+1))):=by
    show _=_;rw[H.out,<-J.out];simp[qeU,qaG]
   go_wp2_with(first
    |(at_builtin;refine wpList_append_own _ rfl _ _ 35 rfl f 5 V (.int .u8 0) 1 1 underlying35 P R S U rfl (by decide) _ _ _ rfl (L.out.own.1.alloc _) ⟨wr.heap.size+1,0,none⟩ 1 1 [.int .u8 44] rfl rfl (by have h:=qag (wr.alloc (.cells #[.string ⟨l.toArray⟩,.iface C D] 198)) #[.int .u8 44] 5;rw[World.size_alloc]at h;exact h) (λu o=>by simp at o;subst o;rfl) (by unfold maxLen;omega) (by omega) (by have:=L.out.own.2.1;simp only[World.size_alloc]at this ⊢;omega) ?_;intro I w4 p B j;obtain⟨ag,ae,rfl⟩:=ownsRow_succ p;have ad:Hid (qoV f W wr.heap.size #[.string ⟨l.toArray⟩,.iface C D] (.slice (some ⟨ag,0,none⟩) (m.length+1) ae) (m++[44]) w4):=L.out.app p B;have bd:=qaa ad.out.row 0;have O:=qjk _ f _ ⟨l.toArray⟩ (m++[44]) (by show _+(jsT l).length<=_;simp only[List.length_append,List.length_cons,List.length_nil];omega) ad.out.own;have e9:jsT (⟨l.toArray⟩:ByteArray).data.toList=jsT l:=rfl;rw[e9]at O)
    |(go_at_call 104;refine O.mono ?_;rintro e Y ⟨v5,rfl,h5,ai,ak⟩;obtain⟨r,E⟩:∃z,Hid ((m++[44])++jsT l=z):=⟨_,show _=_ from rfl⟩;have w:Hid (0<r.length/\r.length+1+(T d).length+1<=999999999):=(by rw[<-E.out];have:=ql1 l;simp only[List.length_append,List.length_cons,List.length_nil];exact⟨by omega,by omega⟩);have x:Hid (qoV f W wr.heap.size #[.string ⟨l.toArray⟩,.iface C D] v5 r Y):=(by rw[<-E.out];exact ad.out.said h5 ai ak);obtain⟨g5,c5,rfl⟩:=qn3 x.out.own w.out.1)
    |(at_builtin;refine wpList_append_own _ rfl _ _ 35 rfl f 5 V (.int .u8 0) 1 1 underlying35 P R S U rfl (by decide) _ _ _ rfl (x.out.own.1.alloc _) ⟨Y.heap.size,0,none⟩ 1 1 [.int .u8 58] rfl rfl (qag _ _ _) (λu o=>by simp at o;subst o;rfl) (by have:=w.out.2;unfold maxLen;omega) (by have:=w.out.2;omega) (by have:=x.out.own.2.1;simp only[World.size_alloc]at this ⊢;omega) ?_;intro I Z p B j;obtain⟨ah,af,rfl⟩:=ownsRow_succ p;have A:Hid (qoV f W wr.heap.size #[.string ⟨l.toArray⟩,.iface C D] (.slice (some ⟨ah,0,none⟩) (r.length+1) af) (r++[58]) Z):=x.out.app p B;have ax:=qaa A.out.row 1)
    |(go_at_call 85;refine(HJ.out Z _ _ A.out.below A.out.own (by have:=w.out.2;simp only[List.length_append,List.length_cons,List.length_nil];omega)).mono ?_;rintro e w7 ⟨v7,rfl,h7,aj⟩;obtain⟨o7,b7,M,X,N,rfl⟩:=h7;have ac:Hid (Own w7 f (.slice M X N) ((r++[58])++T d)):=⟨o7,b7,_,_,_,rfl⟩;have ab:=qab (A.out.below.trans aj)))
   go_roundg g
   case measure=>omega
   case rel=>exact⟨k+1,M,X,N,rfl,by go_num,by show _=_;have:=Q.out;omega,by have h:=ac.out;rw[<-E.out,HE.out]at h;exact h,ab⟩

def qaO:Nat->DataW Unit->List UInt8
 |0,_=>[]
 |k+1,d=>match d with
  |.lit (.bool b)=>bif b then[116,114,117,101]else[102,97,108,115,101]
  |.lit (.int .i64 z)=>Lib.itoa z
  |.lit (.string l)=>jsT l
  |.agg ds=>([91]++qci (qaO k) ds)++[93]
  |.map es=>([123]++qci (qeU (qaO k)) es)++[125]
  |_=>[110,117,108,108]
theorem qrb(W:World)(g:Nat)(v:Value)(b:Option Addr)(f d:Nat)(bs:List UInt8)(x:bs.length<=999999999)(h:Own W g v bs):Calls prog 85 #[v,.iface 192 (.slice b f d)] W λe k=>∃j,e=.returned j/\Own k g j (bs++[110,117,108,108])/\Below g W k:=by
 obtain⟨u,p,r,s,t⟩:=info_parts Tryz.infoU8;obtain⟨a,n,c,rfl⟩:=h.2.2;have i:=qab h;have z:=qbX b f d;have A:=qbK b f d;have B:=qco b f d;have C:∀w:World,(Instr.typeAssert (.iface 192 (.slice b f d)) 82 194 true).run prog w=.ok (.tuple #[.slice none 0 0,.bool false]) w:=λw=>by kernel_rfl
 have D:∀w:World,(Instr.typeAssert (.iface 192 (.slice b f d)) 82 196 true).run prog w=.ok (.tuple #[.slice none 0 0,.bool false]) w:=λw=>by kernel_rfl
 have l:(⟨([110,117,108,108]:List UInt8).toArray⟩:ByteArray).size=4:=rfl;go_enter func85,ntmps85
 go_wp2_with(first
  |(at_builtin;refine wpList_append_own_string _ rfl _ _ 35 9 rfl g 5 u underlying35 underlying9 p r s t _ _ _ rfl i.out.1 ⟨[110,117,108,108].toArray⟩ rfl (by rw[l];unfold maxLen;omega) (by rw[l];omega) i.out.2.1 ?_;intro j E q o y;have m:=qab (qaU i.out q o)))
 go_ret;exact⟨_,rfl,m.out⟩
theorem qw4(W:World)(b:Nat)(v:Value)(bs:List UInt8)(z:Int)(o : -9223372036854775808<=z)(p:z<=9223372036854775807)(m:bs.length<=999999999)(h:Own W b v bs)(q:qgX b W):Calls prog 85 #[v,.iface 219 (.int .i64 z)] W λe d=>∃f,e=.returned f/\Own d b f (bs++Lib.itoa z)/\Below b W d:=by
 have g:=qiN W b v bs z o p m h q;obtain⟨a,n,c,rfl⟩:=h.2.2;have u:=qd8 z;have w:=qg4 z;go_enter func85,ntmps85
 go_wp2_with(first
  |(go_at_call 103;refine g.mono ?_;rintro e y ⟨x,rfl,i,l⟩;obtain⟨j,k,r,t,s,rfl⟩:=i))
 go_ret;exact⟨_,rfl,⟨j,k,_,_,_,rfl⟩,l⟩
theorem qwG(W:World)(b:Nat)(v:Value)(bs l:List UInt8)(p:bs.length+(jsT l).length<=999999999)(h:Own W b v bs):Calls prog 85 #[v,.iface 190 (.string ⟨l.toArray⟩)] W λe d=>∃g,e=.returned g/\Own d b g (bs++jsT l)/\Below b W d:=by
 have f:=qjk W b v ⟨l.toArray⟩ bs p h;have i:jsT (⟨l.toArray⟩:ByteArray).data.toList=jsT l:=rfl;rw[i]at f;obtain⟨a,n,c,rfl⟩:=h.2.2;have t:=qem ⟨l.toArray⟩;have u:=qdx ⟨l.toArray⟩;have w:=qfe ⟨l.toArray⟩;go_enter func85,ntmps85
 go_wp2_with(first
  |(go_at_call 104;refine f.mono ?_;rintro e y ⟨x,rfl,j,o,_⟩;obtain⟨k,m,q,s,r,rfl⟩:=j))
 go_ret;exact⟨_,rfl,⟨k,m,_,_,_,rfl⟩,o⟩
theorem qvl(W:World)(g:Nat)(v:Value)(q:Option Addr)(m b:Nat)(h:List UInt8)(p:∃a n c,v=.slice a n c)(i:Calls prog 105 #[v,.slice q m b] W λe d=>∃f,e=.returned f/\Own d g f h/\Below g W d):Calls prog 85 #[v,.iface 194 (.slice q m b)] W λe d=>∃f,e=.returned f/\Own d g f h/\Below g W d:=by
 obtain⟨a,n,c,rfl⟩:=p;have u:=qen q m b;have w:=qdG q m b;have x:=qfc q m b;have y:=qfd q m b;go_enter func85,ntmps85
 go_wp2_with(first
  |(go_at_call 105;refine i.mono ?_;rintro e A ⟨z,rfl,j,o⟩;obtain⟨k,l,r,t,s,rfl⟩:=j))
 go_ret;exact⟨_,rfl,⟨k,l,_,_,_,rfl⟩,o⟩
theorem qyJ(W:World)(g:Nat)(v:Value)(q:Option Addr)(m b:Nat)(h:List UInt8)(p:∃a n c,v=.slice a n c)(i:Calls prog 106 #[v,.slice q m b] W λe d=>∃f,e=.returned f/\Own d g f h/\Below g W d):Calls prog 85 #[v,.iface 196 (.slice q m b)] W λe d=>∃f,e=.returned f/\Own d g f h/\Below g W d:=by
 obtain⟨a,n,c,rfl⟩:=p;have u:=qfh q m b;have w:=qey q m b;have x:=qg0 q m b;have y:=qgD q m b;have z:=qjl q m b;go_enter func85,ntmps85
 go_wp2_with(first
  |(go_at_call 106;refine i.mono ?_;rintro e B ⟨A,rfl,j,o⟩;obtain⟨k,l,r,t,s,rfl⟩:=j))
 go_ret;exact⟨_,rfl,⟨k,l,_,_,_,rfl⟩,o⟩

def qxv(c:Cfg)(A:Nat)(bv:Value):Array Value:=#[.int .i64 c.inn,.int .i64 c.out,.int .i64 c.depth,.int .i64 c.bytes]++(qaq c.labels.toNat (qcL c.labels.toNat c.L)++#[.int .i64 c.clr,.int .i64 c.key,.pointer (some ⟨A,0,none⟩)])++#[bv,.slice none 0 0,.bool false]
def qlG(c:Cfg):List (List (Nat×List UInt8)×Int×Int):=(qcI c.pol.data.toList).map enS
theorem qo1(w:World)(a:Option Addr)(i:Nat)(B:List Int)(h:qcR w a B)(A:a=none->B.length=0/\i=0)(G:B.length<=8):Calls prog 27 #[.slice a B.length i] w λe c=>∃d f,e=.returned (.slice d B.length f)/\qb7 c 3 1 (λg=>w.heap.size<=g/\g<c.heap.size) (.slice d B.length f) B.length (B.map (Value.int .i64))/\Below w.heap.size w c:=by
 have s:∀{c:World} {v:Value} {n:Nat} {q:List Value},c.ownsRow w.heap.size 3 1 v n q->∃d f,v=.slice d n f/\qb7 c 3 1 (λg=>w.heap.size<=g/\g<c.heap.size) (.slice d n f) n q:=by
  rintro c v n q ⟨k,m⟩;rcases m with⟨rfl,rfl⟩|⟨g,i,x,rfl,C,t,D⟩
  ·exact⟨none,0,rfl,k,.inl ⟨rfl,rfl⟩⟩
  exact⟨_,_,rfl,k,.inr ⟨g,i,x,rfl,⟨C,(ltA t)⟩,t,D⟩⟩
 cases a with
 |none =>
  obtain⟨l,F⟩:=A rfl;refine(Tryz.slices_Clone_int_nil B.length i w).mono ?_;rintro e c ⟨rfl,rfl⟩;have p:=List.eq_nil_of_length_eq_zero l;subst p;exact⟨none,0,rfl,⟨rfl,.inl ⟨rfl,rfl⟩⟩,Below.refl _ _⟩
 |some u =>
  by_cases y:B.length=0
  ·have p:=List.eq_nil_of_length_eq_zero y;subst p;refine(Tryz.slices_Clone_int_zero u i w).mono ?_;rintro e c ⟨E,rfl,k,_,m⟩;obtain⟨d,f,rfl,o⟩:=s k;exact⟨d,f,rfl,o,m⟩
  obtain⟨b,off,l,H,z⟩:=h.at_ 0 (by omega);injection l with l;subst l;refine(Tryz.slices_Clone_int b off B.length i B w (Nat.le_refl _) (by omega) (λj r=>?_)).mono ?_
  ·rw[z j r,List.getD_eq_getElem?_getD,List.getElem?_eq_getElem r];rfl
  rintro e c ⟨E,rfl,k,_,m⟩;rw[List.take_length]at k;obtain⟨d,f,rfl,o⟩:=s k;exact⟨d,f,rfl,o,m⟩
structure GOp(c:Cfg)(W0:World)(L A:Nat)(q:Aut)(sts:List ((Nat->Nat)×Int×Int))(sa:Option Addr)(sc:Nat)(nf mf:Lit->Option Nat)(bv:Value)(V:World):Prop where
 cp:q0h W0 (qlG c) c.dflt A q sts sa sc nf mf V
 bk:qb7 V 3 1 (λg=>W0.heap.size<=g/\g<L) bv c.B.length (c.B.map (Value.int .i64))
 bs:∃ba bc,bv=.slice ba c.B.length bc
def quf(c:Cfg)(w:World)(e:Ending)(w':World):Prop :=
 Below w.heap.size w w'/\((¬qb3 c=0/\e=.returned (.tuple #[.pointer none,.int .i64 (qb3 c)]))\/(qb3 c=0/\∃W0 L A q sts sa sc nf mf bv,e=.returned (.tuple #[.pointer (some ⟨L,0,none⟩),.int .i64 0])/\w.heap.size<=W0.heap.size/\W0.heap.size<=L/\w'.heap.size=L+1/\w'.heap[L]?=some (.cells (qxv c A bv) 79)/\GOp c W0 L A q sts sa sc nf mf bv w'))
theorem q0v{A:Array Value}{O:Array Value}{a:Option Addr}{k cap:Nat}(h:A=qcu O a k cap)(d:O.size=37):∀(j:Nat) (u:Value),O[j]?=some u->A[j]?=some u:=by
 intro j u b;have c:j<37:=by have:=ltA b;omega
 rw[h];unfold qcu;rw[Array.getElem?_push,if_neg (by omega)];exact b
theorem qzj(n:Nat)(m:Nat->Nat->Bool):(prog.info? 67).map (·.size)=some (qaq n m).size:=by rw[qae];kernel_rfl
theorem qtZ(c:Cfg)(w:World)(Q:qin w c)(m:qmF w)(ac:qb3 c=0->c.B.length<=8):Calls prog 9 #[.agg c.arr] w (quf c w):=by
 have HS:=qab c.size;have W:=qab Q;have V:=qab ac;have r:=qab (qgs w c);have q:=qlL c _ (r.out.cfg Q) (m.below r.out.below);have I:=qab (qlE c);clear Q m ac;go_enter func9,ntmps9
 go_wp2_with(first
  |(refine wpList_load_row rfl 25 _ rfl _ rfl _ _ _ _ r.out.box underlying25 rfl (qaA HS.out) ?_)
  |fail)
 refine q.mono ?_;clear q;rintro e d ⟨A,rfl,t,aa⟩;rw[I.out.1,I.out.2];have T:=qab t.1;have U:=qab t.2.1;have g:Hid (qcU.size=A.size):=by show _=_;rw[t.1];exact qbk
 have s:=qab (r.out.step aa);have y:Hid (qzs w c d.heap.size A (d.alloc (.cells A 70))):=⟨s.out.below.alloc s.out.below.size _,(Below.heap_alloc _ _ _ (ltA s.out.box)).trans s.out.box,qac _ _⟩
 have J:=t.2.2;rw[I.out.1]at J;clear t aa r s;by_cases f:qb3 c=0
 ·obtain⟨_,x,sk,R,M,lo,ae⟩:=J f;obtain⟨ra,rc,a0,af⟩:=ae.pru;injection a0 with e1 e2 e3;subst e1;subst e2;subst e3;have aw:A[37]?=some (.slice x (qlG c).length R):=by
   rw[M];unfold qcu;rw[Array.getElem?_push,qae];rfl
  have ag:=qab (q0v M (qae _ _));have an:Hid (qe0 (d.alloc (.cells A 70)) x (qlG c)):=af.below bwA;have aq:=qqU (qqd f);have ak:=qab (V.out f);have ah:=qab f;clear M J ae af V;rw[f];clear f;obtain⟨hn,h8,az⟩:=aq;have al:Hid ((qlG c).length<=16):=hn;have H8:Hid (∀i (h:i<(qlG c).length),(qlG c)[i].1.length<=8):=h8;have aj:Hid (∀i (h:i<(qlG c).length) j (h2:j<(qlG c)[i].1.length),(qlG c)[i].1[j].1<=3/\(qlG c)[i].1[j].2.length<=1000000000):=az
  go_wp2_with(first
   |(refine qcn rfl rfl _ rfl d.heap.size rfl ?_)
   |(refine wpList_store_row rfl 70 _ _ rfl d.heap.size A rfl rfl 70 qcU (qac d _) (qbx T.out) g.out U.out ?_;rw[World.setRow_alloc_new]))
  have b:(λZ:World=>Z.heap[w.heap.size]?=some (.cells c.arr 25)/\Z.heap[d.heap.size]?=some (.cells A 70)) { (d.alloc (.cells A 70))with drawn:=(d.alloc (.cells A 70)).drawn+1}:=⟨y.out.box,y.out.row⟩
  refine wp_region_held (S:=λZ=>Z.heap[w.heap.size]?=some (.cells c.arr 25)/\Z.heap[d.heap.size]?=some (.cells A 70)) (by kernel_rfl) ?_;have F:Hid (Below w.heap.size w { (d.alloc (.cells A 70))with drawn:=(d.alloc (.cells A 70)).drawn+1}):=y.out.below.drew;have ao:Hid (qe0 { (d.alloc (.cells A 70))with drawn:=(d.alloc (.cells A 70)).drawn+1} x (qlG c)):=an.out.below (Below.refl _ _).drew;generalize({ (d.alloc (.cells A 70))with drawn:=(d.alloc (.cells A 70)).drawn+1}:World)=W4 at *;generalize d.heap.size=N4 at *;have am:Hid (∀Z:World,Z.heap[N4]?=some (.cells A 70)->∀(j:Nat) (u:Value),(qaq c.labels.toNat (qcL c.labels.toNat c.L))[j]?=some u->Z.cell? ⟨N4,0+j,none⟩=some u):=λZ a j u hu=>by rw[Nat.zero_add];exact(qaa a j).trans (ag.out j u hu)
  refine tkH 0 16 (.pointer (some ⟨w.heap.size,6,none⟩)) rfl (by kernel_rfl) (λ_ _ _ h=>h) (λZ a=>by kernel_rfl) b ?_;refine tkH 1 17 (.int .i64 c.inn) rfl (by kernel_rfl) (λ_ _ _ h=>h) (λZ a=>?y1) b ?_
  case y1=>(have l:Z.cell? ⟨w.heap.size,6,none⟩=some (.int .i64 c.inn):=qaa a.1 6;go_simp)
  refine tkH 2 18 (.pointer (some ⟨w.heap.size,7,none⟩)) rfl (by kernel_rfl) (λ_ _ _ h=>h) (λZ a=>by kernel_rfl) b ?_;refine tkH 3 19 (.int .i64 c.out) rfl (by kernel_rfl) (λ_ _ _ h=>h) (λZ a=>?y3) b ?_
  case y3=>(have l:Z.cell? ⟨w.heap.size,7,none⟩=some (.int .i64 c.out):=qaa a.1 7;go_simp)
  refine tkH 4 20 (.pointer (some ⟨w.heap.size,8,none⟩)) rfl (by kernel_rfl) (λ_ _ _ h=>h) (λZ a=>by kernel_rfl) b ?_;refine tkH 5 21 (.int .i64 c.depth) rfl (by kernel_rfl) (λ_ _ _ h=>h) (λZ a=>?y5) b ?_
  case y5=>(have l:Z.cell? ⟨w.heap.size,8,none⟩=some (.int .i64 c.depth):=qaa a.1 8;go_simp)
  refine tkH 6 22 (.pointer (some ⟨w.heap.size,9,none⟩)) rfl (by kernel_rfl) (λ_ _ _ h=>h) (λZ a=>by kernel_rfl) b ?_;refine tkH 7 23 (.int .i64 c.bytes) rfl (by kernel_rfl) (λ_ _ _ h=>h) (λZ a=>?y7) b ?_
  case y7=>(have l:Z.cell? ⟨w.heap.size,9,none⟩=some (.int .i64 c.bytes):=qaa a.1 9;go_simp)
  refine tkH 8 24 (.agg #[.int .i64 c.depth,.int .i64 c.bytes]) rfl (by kernel_rfl) (λ_ _ _ h=>h) (λZ a=>by kernel_rfl) b ?_;refine tkH 9 25 (.pointer (some ⟨N4,0,none⟩)) rfl (by kernel_rfl) (λ_ _ _ h=>h) (λZ a=>by kernel_rfl) b ?_;refine tkH 10 26 (.agg (qaq c.labels.toNat (qcL c.labels.toNat c.L))) rfl (by kernel_rfl) (λ_ _ _ h=>h) (λZ a=>?y10) b ?_
  case y10=>exact qy2 67 (.tmp 25) (by kernel_rfl) N4 0 (by kernel_rfl) (qaq c.labels.toNat (qcL c.labels.toNat c.L)) _ (am.out Z a.2) underlying67 (by kernel_rfl) (qzj _ _)
  refine tkH 11 27 (.pointer (some ⟨w.heap.size,4,none⟩)) rfl (by kernel_rfl) (λ_ _ _ h=>h) (λZ a=>by kernel_rfl) b ?_;refine tkH 12 28 (.int .i64 c.clr) rfl (by kernel_rfl) (λ_ _ _ h=>h) (λZ a=>?y12) b ?_
  case y12=>(have l:Z.cell? ⟨w.heap.size,4,none⟩=some (.int .i64 c.clr):=qaa a.1 4;go_simp)
  refine tkH 13 29 (.pointer (some ⟨w.heap.size,5,none⟩)) rfl (by kernel_rfl) (λ_ _ _ h=>h) (λZ a=>by kernel_rfl) b ?_;refine tkH 14 30 (.int .i64 c.key) rfl (by kernel_rfl) (λ_ _ _ h=>h) (λZ a=>?y14) b ?_
  case y14=>(have l:Z.cell? ⟨w.heap.size,5,none⟩=some (.int .i64 c.key):=qaa a.1 5;go_simp)
  refine tkH 15 31 (.pointer (some ⟨N4,37,none⟩)) rfl (by kernel_rfl) (λ_ _ _ h=>h) (λZ a=>by kernel_rfl) b ?_;refine tkH 16 32 (.slice x (qlG c).length R) rfl (by kernel_rfl) (λ_ _ _ h=>h) (λZ a=>?y16) b ?_
  case y16=>(have l:=(qaa a.2 37).trans aw;go_simp)
  refine tkH 17 33 (.pointer (some ⟨w.heap.size,2,none⟩)) rfl (by kernel_rfl) (λ_ _ _ h=>h) (λZ a=>by kernel_rfl) b ?_;refine tkH 18 34 (.int .i64 c.dflt) rfl (by kernel_rfl) (λ_ _ _ h=>h) (λZ a=>?y18) b ?_
  case y18=>(have l:Z.cell? ⟨w.heap.size,2,none⟩=some (.int .i64 c.dflt):=qaa a.1 2;go_simp)
  refine tkH 21 37 (.pointer (some ⟨w.heap.size,10,none⟩)) rfl (by kernel_rfl) (λ_ _ _ h=>h) (λZ a=>by kernel_rfl) b ?_;refine tkH 22 38 (.slice c.ba c.B.length c.bcap) rfl (by kernel_rfl) (λ_ _ _ h=>h) (λZ a=>?y22) b ?_
  case y22=>(have l:Z.cell? ⟨w.heap.size,10,none⟩=some (.slice c.ba c.B.length c.bcap):=qaa a.1 10;go_simp)
  refine rdS 19 rfl (by kernel_rfl) (λK v=>?_);go_simp;refine(qlX W4 x R (qlG c) c.dflt ao.out al.out H8.out aj.out).mono ?_;rintro e w5 ⟨p,a1,a2,ta,tc,nf,mf,rfl,ad⟩;simp only[];have D:=ad.au.below;have X:=qab ad;have G:=qab (F.out.trans (D.mono F.out.size));have n:(λZ:World=>Z.heap[w.heap.size]?=some (.cells c.arr 25)/\Z.heap[N4]?=some (.cells A 70)) w5:=⟨(D.block _ (ltA b.1)).trans b.1,(D.block _ (ltA b.2)).trans b.2⟩
  have ar:=qab F.out.size;have Y:=qab D.size;refine v.out _ _ n (λ_=>?_);refine tkH 20 36 (.agg (qaq c.labels.toNat (qcL c.labels.toNat c.L)++#[.int .i64 c.clr,.int .i64 c.key,.pointer (some ⟨p,0,none⟩)])) rfl (by kernel_rfl) (λ_ _ _ h=>h) (λZ a=>by kernel_rfl) n ?_;refine rdS 23 rfl (by kernel_rfl) (λK v=>?_);go_simp;refine(qo1 w5 c.ba c.bcap c.B ((W.out.below G.out).ints) W.out.bn ak.out).mono ?_;rintro e k ⟨z,C,rfl,ay,O⟩;simp only[];have o:(λZ:World=>Z.heap[w.heap.size]?=some (.cells c.arr 25)/\Z.heap[N4]?=some (.cells A 70)) k:=⟨(O.block _ (ltA n.1)).trans n.1,(O.block _ (ltA n.2)).trans n.2⟩
  have ap:=qab ay;have H:=qab O;refine v.out _ _ o (λ_=>?_);refine tkH 24 40 (.agg (qxv c p (.slice z c.B.length C))) rfl (by kernel_rfl) (λ_ _ _ h=>h) (λZ a=>by kernel_rfl) o ?_;refine rdS 25 rfl (by kernel_rfl) (λK v=>?_);go_simp;have P:(λZ:World=>Z.heap[w.heap.size]?=some (.cells c.arr 25)/\Z.heap[N4]?=some (.cells A 70)) (k.alloc (.cells (qxv c p (.slice z c.B.length C)) 79)):=⟨(Below.heap_alloc _ _ _ (ltA o.1)).trans o.1,(Below.heap_alloc _ _ _ (ltA o.2)).trans o.2⟩
  refine v.out _ _ P (λ_=>?_);refine tkH 26 2 (.pointer (some ⟨k.heap.size,0,none⟩)) rfl (by kernel_rfl) (λ_ _ _ h=>h) (λZ a=>by kernel_rfl) P ?_;refine tkH 27 3 (.int .i64 0) rfl (by kernel_rfl) (λ_ _ _ h=>h) (λZ a=>by kernel_rfl) P ?_;refine wpAnyH_done (by kernel_rfl) ?_ _;go_simp;go_wp2
  go_ret2
  have ax:Below k.heap.size k (k.alloc (.cells (qxv c p (.slice z c.B.length C)) 79)):=bwA;have ab:=H.out.trans (ax.mono H.out.size);refine⟨G.out.trans (ab.mono G.out.size),.inr ⟨ah.out,W4,k.heap.size,p,a1,a2,ta,tc,nf,mf,.slice z c.B.length C,rfl,ar.out,Nat.le_trans Y.out H.out.size,World.size_alloc _ _,qac k _,⟨{X.out with au:=X.out.au.next ab},?_,_,_,rfl⟩⟩⟩;exact ap.out.same (λav m=>⟨Nat.le_trans Y.out m.1,m.2⟩) (λav m=>Below.heap_alloc _ _ _ m.2)
 have HE:=qab f;have ai:Hid (quf c w (.returned (.tuple #[.pointer none,.int .i64 (qb3 c)])) (d.alloc (.cells A 70))):=⟨y.out.below,.inl ⟨f,rfl⟩⟩
 generalize qb3 c=E at *;generalize qew c=N at *;have hE:(E==0)=false:=by simpa using HE.out
 go_wp2_with(first
  |(refine qcn rfl rfl _ rfl d.heap.size rfl ?_)
  |(refine wpList_store_row rfl 70 _ _ rfl d.heap.size A rfl rfl 70 qcU (qac d _) (qbx T.out) g.out U.out ?_;rw[World.setRow_alloc_new]))
 go_ret2
 exact ai.out

def qoe(r:List UInt8):Prop:=∀c,r[0]?=some c->qbO c=false/\¬(c.toNat=46\/c.toNat=101\/c.toNat=69)
theorem qpo(bs:List UInt8)(lim:Int)(f:Nat)(q:(bs.length:Int)<=lim)(z:Bool)(rest:List UInt8)(m:qoe rest):∀(a:List UInt8) (g p e:Nat),bs.drop p=a++rest->(∀c∈a,qbO c=true)->qoU a e<=f->a.length<g->(a≠[]->z=false)->qeQ bs lim f z g p e=.ok (qoU a e,p+a.length)
 |[],g,p,e,b,_,_,hg,_=>by
  obtain⟨g,rfl⟩:∃h,g=h+1:=⟨g-1,by simp at hg;omega⟩
  cases rest with
  |nil =>
   rw[qeQ,qpX b];rfl
  |cons c r =>
   obtain⟨i,j,o⟩:=qak (show bs.drop p=c::r from b);have k:=m c rfl;rw[qeQ,i];simp only[];rw[if_neg (by omega),if_neg (by rw[k.1];decide),if_neg k.2];rfl
 |c::a,g,p,e,b,ha,hv,hg,hz=>by
  obtain⟨i,j,o⟩:=qak b;obtain⟨g,rfl⟩:∃h,g=h+1:=⟨g-1,by simp at hg;omega⟩
  have l:=ha c (List.mem_cons_self ..);have t:e*10+(c.toNat-48)<=f:=Nat.le_trans (qre a _) hv;have s:=of_decide_eq_true l;have n:=hz (by simp);rw[qeQ,i];simp only[];rw[if_neg (by omega),if_pos l,if_neg (by rw[n];decide),if_neg (by omega),qpo bs lim f q z rest m a g (p+1) _ j (λd b=>ha d (List.mem_cons_of_mem _ b)) hv (by rw[List.length_cons]at hg;omega) (λ_=>n)];rw[show p+1+a.length=p+(c::a).length by rw[List.length_cons];omega];rfl
theorem qx9(m:(bs.length:Int)<=lim){z:Int}(x : -9223372036854775808<=z)(y:z<=9223372036854775807){rest:List UInt8}(n:qoe rest)(a:bs.drop p=Lib.itoa z++rest):∃c,bs[p]?=some c/\p<bs.length/\(c.toNat=45\/qbO c=true)/\qeq ⟨none,bs,0,0,lim,p+1,0⟩ c=.ok (z,p+(Lib.itoa z).length):=by
 obtain⟨c,cs,j,h,k,l,t,u,_⟩:=qd7 z.natAbs;have A:=of_decide_eq_true h;have b:=congrArg List.length a;rw[List.length_drop,List.length_append]at b;have q:cs≠[]->(c.toNat==48)=false:=λv=>by
  simp only[beq_eq_false_iff_ne];intro e;exact v (u (t e)).2
 by_cases o:z<0
 ·have i:Lib.itoa z=45::c::cs:=by unfold Lib.itoa;rw[if_pos o,j]
  rw[i]at a b ⊢;obtain⟨d,f,g⟩:=qak a;obtain⟨r,s,w⟩:=qak f;refine⟨45,d,g,.inl rfl,?_⟩;unfold qeq;rw[if_pos (by rfl),r];simp only[];rw[if_neg (by omega),if_pos h];rw[qpo bs lim 9223372036854775808 m _ rest n cs _ (p+1+1) (c.toNat-48) s k (by omega) (by simp only[List.length_cons]at b;omega) q,l];simp only[List.length_cons];congr 2
  ·omega
  omega
 have i:Lib.itoa z=c::cs:=by unfold Lib.itoa;rw[if_neg o,show z.toNat=z.natAbs by omega,j]
 rw[i]at a b ⊢;obtain⟨d,f,g⟩:=qak a;refine⟨c,d,g,.inr h,?_⟩;unfold qeq;rw[if_neg (by omega)];rw[qpo bs lim 9223372036854775807 m _ rest n cs _ (p+1) (c.toNat-48) f k (by omega) (by simp only[List.length_cons]at b ⊢;omega) q,l];simp only[List.length_cons];congr 2
 ·omega
 omega
theorem qhj(d:(bs.length:Int)<=lim)(rest:List UInt8):∀(l:List UInt8) (p:Nat),bs.drop p=l++rest->qaQ bs lim l p=.ok ((),p+l.length)
 |[],p,_=>rfl
 |c::l,p,hd=>by
  obtain⟨a,b,e⟩:=qak hd;rw[qaQ,a];simp only[];rw[if_neg (by omega),if_pos True.intro,qhj d rest l (p+1) b,show p+1+l.length=p+(c::l).length by rw[List.length_cons];omega]
theorem qdy(i:(bs.length:Int)<=lim)(d:bs.drop p=c::r)(b:quE c=false):spF bs lim (bs.length+1-p) p=.ok ((),p):=by
 obtain⟨a,f,h⟩:=qak d;obtain⟨g,e⟩:∃g,bs.length+1-p=g+1:=⟨bs.length-p,by omega⟩
 rw[e,spF,a];simp only[];rw[if_neg (by omega),b,if_neg (by decide)]

def Beg(l:List UInt8):Prop:=∃c r,l=c::r/\quE c=false/\¬c.toNat=93/\¬c.toNat=125
theorem qni(h:c.toNat=44\/c.toNat=93\/c.toNat=125):qoe (c::r):=by
 intro x a;injection a with a;subst a;refine⟨?_,by omega⟩
 cases b:qbO c with
 |false=>rfl
 |true=>have:=of_decide_eq_true b;omega
theorem qx7(h:c.toNat=44\/c.toNat=93\/c.toNat=125\/c.toNat=58):quE c=false:=by
 unfold quE;rcases h with h|h|h|h<;>rw[h]<;>rfl
section
variable{α β:Type} {bs:List UInt8} {lim:Int} {itF:α->Nat->Except (Int×Int) (α×Nat)} {st:α->β->α} {T:β->List UInt8} {Inv:α->List β->Prop} {last:UInt8}
theorem quz(i:(bs.length:Int)<=lim)(s:last.toNat=93\/last.toNat=125)(rest:List UInt8)(H:∀a y b p r,Inv a (y::b)->qoe r->bs.drop p=T y++r->itF a p=.ok (st a y,p+(T y).length)/\Inv (st a y) b)(n:∀a y b,Inv a (y::b)->Beg (T y)):∀(j:List β) (x:β) (g p:Nat) (a:α),Inv a (x::j)->bs.drop p=T x++((j.flatMap λe=>44::T e)++last::rest)->j.length+1<=g->qfQ bs lim itF last.toNat g p a=.ok ((x::j).foldl st a,p+(T x).length+(j.flatMap λe=>44::T e).length+1)
 |[],x,g,p,a,hI,hd,hg=>by
  obtain⟨g,rfl⟩:∃l,g=l+1:=⟨g-1,by simp at hg;omega⟩
  obtain⟨c,r,e,o,_⟩:=n a x [] hI;have d:=hd;rw[e]at d;obtain⟨m,_⟩:=H a x [] p _ hI (qni (c:=last) (r:=rest) (by omega)) hd;have f:bs.drop (p+(T x).length)=last::rest:=by rw[<-List.drop_drop,hd,List.drop_left];rfl
  obtain⟨k,q,t⟩:=qak f;rw[qfQ,qdy i d o];simp only[];rw[m];simp only[];rw[qdy i f (qx7 (by omega))];simp only[];rw[k];simp only[];rw[if_neg (by omega),if_pos True.intro];rfl
 |y::b,x,g,p,a,hI,hd,hg=>by
  obtain⟨g,rfl⟩:∃l,g=l+1:=⟨g-1,by simp at hg;omega⟩
  obtain⟨c,r,e,o,_⟩:=n a x _ hI;have d:=hd;rw[e]at d;rw[List.flatMap_cons,List.append_assoc]at hd;obtain⟨m,u⟩:=H a x _ p _ hI (qni (c:=44) (.inl rfl)) hd;have f:bs.drop (p+(T x).length)=44::(T y++((b.flatMap λe=>44::T e)++last::rest)):=by rw[<-List.drop_drop,hd,List.drop_left];rfl
  obtain⟨k,q,t⟩:=qak f;rw[qfQ,qdy i d o];simp only[];rw[m];simp only[];rw[qdy i f (by rfl)];simp only[];rw[k];simp only[];rw[if_neg (by omega),if_neg (by rcases s with h|h<;>rw[h]<;>decide),if_pos (by rfl),quz i s rest H n b y g _ (st a x) u q (by rw[List.length_cons]at hg;omega)];rw[List.foldl_cons,List.flatMap_cons,List.length_append,List.length_cons];congr 2;omega
theorem qun(k:(bs.length:Int)<=lim)(q:last.toNat=93\/last.toNat=125)(rest:List UInt8)(H:∀b y f p r,Inv b (y::f)->qoe r->bs.drop p=T y++r->itF b p=.ok (st b y,p+(T y).length)/\Inv (st b y) f)(m:∀b y f,Inv b (y::f)->Beg (T y))(d:List β)(p:Nat)(b:α)(l:Inv b d)(h:bs.drop p=qci T d++last::rest):qdV bs lim itF last.toNat p b=.ok (d.foldl st b,p+(qci T d).length+1):=by
 unfold qdV
 cases d with
 |nil =>
  obtain⟨g,n,o⟩:=qak (show bs.drop p=last::rest from h);rw[qdy k (show bs.drop p=last::rest from h) (qx7 (by omega))];simp only[];rw[g];simp only[];rw[if_neg (by omega),if_pos True.intro];rfl
 |cons x d =>
  obtain⟨c,r,e,t,u,v⟩:=m b x d l;have i:bs.drop p=T x++((d.flatMap λe=>44::T e)++last::rest):=by rw[h];unfold qci;rw[List.append_assoc]
  have j:=i;rw[e]at j;obtain⟨g,n,o⟩:=qak j;have s:=congrArg List.length i;rw[List.length_drop,List.length_append,List.length_append,List.length_cons]at s;have w:d.length<=(d.flatMap λe=>44::T e).length:=qcY _ d (λa _=>by simp);rw[qdy k j t];simp only[];rw[g];simp only[];rw[if_neg (by omega),if_neg (by omega),quz k q rest H m d x _ p b l i (by omega)];unfold qci;rw[List.length_append,Nat.add_assoc p]
end
theorem qtW(b c:List (DataW Unit)):b.foldl (λa d=>a++[d]) c=c++b:=by
 induction b generalizing c with
 |nil=>simp
 |cons d b e=>rw[List.foldl_cons,e,List.append_assoc];rfl
def qzq(a:List (List UInt8)×List (Lit×DataW Unit))(e:Lit×DataW Unit):List (List UInt8)×List (Lit×DataW Unit):=(qaG e.1::a.1,a.2++[e])
theorem qtH(b:List (Lit×DataW Unit)):∀a,(b.foldl qzq a).2=a.2++b:=by
 induction b with
 |nil=>intro a;simp
 |cons e b c=>intro a;rw[List.foldl_cons,c];unfold qzq;rw[List.append_assoc];rfl
theorem quq:∀{k:Nat} {d:DataW Unit},Gd k d->qdu k d=false->Beg (qaO k d)
 |0,_,h,_=>h.elim
 |k+1,d,h,hh=>by
  unfold Gd at h;unfold qaO;split at h
  ·exact⟨110,_,rfl,rfl,by decide,by decide⟩
  ·next b=>cases b;exact⟨102,_,rfl,rfl,by decide,by decide⟩;exact⟨116,_,rfl,rfl,by decide,by decide⟩
  ·next z =>
   obtain⟨c,cs,a,e,_⟩:=qd7 z.natAbs;have f:=of_decide_eq_true e;simp only[];unfold Lib.itoa;split
   ·exact⟨45,_,rfl,rfl,by decide,by decide⟩
   rw[show z.toNat=z.natAbs by omega,a];refine⟨c,cs,rfl,?_,by omega,by omega⟩;unfold quE;simp;omega
  ·exact⟨34,_,rfl,rfl,by decide,by decide⟩
  ·unfold qdu at hh;cases hh
  ·exact⟨91,_,rfl,rfl,by decide,by decide⟩
  ·exact⟨123,_,rfl,rfl,by decide,by decide⟩
  exact h.elim
theorem quj(bs:List UInt8)(lim depth:Int)(j:(bs.length:Int)<=lim):∀(k g t:Nat) (d:DataW Unit) (p:Nat) (n:List UInt8),Gd k d->qdu k d=false->k<=g->(k:Int)+t<=depth+1->qoe n->bs.drop p=qaO k d++n->thJ bs lim depth (λc p=>qeq ⟨none,bs,0,0,lim,p,0⟩ c) g t p=.ok (d,p+(qaO k d).length)
 |0,_,_,_,_,_,h,_,_,_,_,_=>h.elim
 |k+1,0,_,_,_,_,_,_,hg,_,_,_=>by omega
 |k+1,g+1,t,d,p,n,h,hh,hg,hw,hr,hd=>by
  have J:=quj bs lim depth j k g (t+1);unfold Gd at h;unfold qdu at hh;unfold qaO at hd ⊢;rw[thJ];split at h
  ·obtain⟨i,o,q⟩:=qak hd;rw[i];simp only[];rw[if_neg (by omega)];unfold qjC;rw[if_pos (by rfl),qhj j n [117,108,108] _ o];rfl
  ·next b =>
   cases b
   ·obtain⟨i,o,q⟩:=qak hd;rw[i];simp only[];rw[if_neg (by omega)];unfold qjC;rw[if_neg (by decide),if_neg (by decide),if_pos (by rfl),qhj j n [97,108,115,101] _ o];rfl
   obtain⟨i,o,q⟩:=qak hd;rw[i];simp only[];rw[if_neg (by omega)];unfold qjC;rw[if_neg (by decide),if_pos (by rfl),qhj j n [114,117,101] _ o];rfl
  ·next z =>
   obtain⟨c,i,q,H,v⟩:=qx9 j h.1 h.2 hr hd;have Y:c.toNat=45\/(48<=c.toNat/\c.toNat<=57):=by
    rcases H with e|e
    ·exact .inl e
    have:=of_decide_eq_true e;omega
   rw[i];simp only[];rw[if_neg (by omega)];unfold qjC;rw[if_neg (by omega),if_neg (by omega),if_neg (by omega),if_neg (by omega),if_neg (by omega),if_neg (by omega),if_pos H];simp only[];rw[v]
  ·next l =>
   obtain⟨i,q,v⟩:=quD j h hd;rw[i];simp only[];rw[if_neg (by omega)];unfold qjC;rw[if_neg (by decide),if_neg (by decide),if_neg (by decide),if_pos (by rfl),v]
  ·cases hh
  ·next ds =>
   simp only[List.append_assoc]at hd;obtain⟨i,o,q⟩:=qak (show bs.drop p=91::(qci (qaO k) ds++([93]++n))from hd);rw[i];simp only[];rw[if_neg (by omega)];unfold qjC;rw[if_neg (by decide),if_neg (by decide),if_neg (by decide),if_neg (by decide),if_pos (by rfl),if_neg (by have:=h.1;omega)];have w:∀x∈ds,qdu k x=false:=λx f=>by
    cases e:qdu k x with
    |false=>rfl
    |true=>have:ds.any (qdu k)=true:=List.any_eq_true.2 ⟨x,f,e⟩;simp only[]at hh;rw[this]at hh;cases hh
   have:=qun (bs:=bs) (lim:=lim) (itF:=liJ (thJ bs lim depth (λc p=>qeq ⟨none,bs,0,0,lim,p,0⟩ c) g (t+1))) (st:=λa d=>a++[d]) (T:=qaO k) (Inv:=λ_ l=>∀x∈l,Gd k x/\qdu k x=false) (last:=93) j (.inl rfl) n (λK y U p r m A s=>?_) (λ_ y _ m=>quq (m y (List.mem_cons_self ..)).1 (m y (List.mem_cons_self ..)).2) ds (p+1) [] (λx f=>⟨h.2 x f,w x f⟩) o
   ·rw[show qdV bs lim (liJ _) 93 (p+1) []=_ from this];simp only[List.length_append,List.length_cons,List.length_nil];rw[qtW,List.nil_append];congr 2;omega
   refine⟨?_,λx f=>m x (List.mem_cons_of_mem _ f)⟩;unfold liJ;rw[J y p r (m y (List.mem_cons_self ..)).1 (m y (List.mem_cons_self ..)).2 (by omega) (by omega) A s]
  ·next es =>
   simp only[List.append_assoc]at hd;obtain⟨i,o,q⟩:=qak (show bs.drop p=123::(qci (qeU (qaO k)) es++([125]++n))from hd);rw[i];simp only[];rw[if_neg (by omega)];unfold qjC;rw[if_neg (by decide),if_neg (by decide),if_neg (by decide),if_neg (by decide),if_neg (by decide),if_pos (by rfl),if_neg (by have:=h.1;omega)];have w:∀x∈es,qdu k x.2=false:=λx f=>by
    cases e:qdu k x.2 with
    |false=>rfl
    |true=>have:(es.any λe=>qdu k e.2)=true:=List.any_eq_true.2 ⟨x,f,e⟩;simp only[]at hh;rw[this]at hh;cases hh
   have:=qun (bs:=bs) (lim:=lim) (itF:=enJ bs lim (thJ bs lim depth (λc p=>qeq ⟨none,bs,0,0,lim,p,0⟩ c) g (t+1))) (st:=qzq) (T:=qeU (qaO k)) (Inv:=λa l=>(l.map λe=>qaG e.1).Nodup/\∀x∈l,(¬qaG x.1∈a.1)/\(∃l,x.1=.string l/\Vt l)/\Gd k x.2/\qdu k x.2=false) (last:=125) j (.inr rfl) n (λK y U p r m A s=>?_) (λ_ y _ m=>⟨34,_,rfl,rfl,by decide,by decide⟩) es (p+1) ([],[]) ⟨h.2.1,λx f=>⟨(λe=>by cases e),(h.2.2 x f).1,(h.2.2 x f).2,w x f⟩⟩ o
   ·rw[show qdV bs lim (enJ _ _ _) 125 (p+1) ([],[])=_ from this];simp only[List.length_append,List.length_cons,List.length_nil];rw[qtH];congr 2;omega
   obtain⟨R,⟨l,E,M⟩,G,hF⟩:=m.2 y (List.mem_cons_self ..);have F:qaG y.1=l:=by rw[E];rfl
   have B:=m.1;rw[List.map_cons,List.nodup_cons]at B;refine⟨?_,B.2,λx f=>?_⟩
   ·unfold qeU at s;simp only[List.append_assoc]at s;obtain⟨L,V,v⟩:=quD j (F▸M:Vt (qaG y.1)) s;have C:bs.drop (p+(jsT (qaG y.1)).length)=58::(qaO k y.2++r):=by rw[<-List.drop_drop,s,List.drop_left];rfl
    obtain⟨W,D,X⟩:=qak C;obtain⟨c,Z,f1,O,_⟩:=quq G hF;have I:=D;rw[f1]at I;unfold enJ qlm;have S:qaQ bs lim [34] p=.ok ((),p+1):=by
     rw[qaQ,L];simp only[];rw[if_neg (by omega),if_pos True.intro];rfl
    rw[S];simp only[];rw[v];simp only[];rw[if_neg R];simp only[];rw[qdy j C (by rfl)];simp only[];rw[show qaQ bs lim [58] (p+(jsT (qaG y.1)).length)=.ok ((),p+(jsT (qaG y.1)).length+1)from qhj j _ [58] _ C];simp only[];rw[qdy j I O];simp only[];rw[J y.2 _ r G hF (by omega) (by omega) A D];simp only[];unfold qzq qeU;have N:(Lit.string (qaG y.1),y.2)=y:=by rw[F,<-E]
    rw[N];simp only[List.length_append,List.length_cons,List.length_nil];congr 2;omega
   obtain⟨P,Q⟩:=m.2 x (List.mem_cons_of_mem _ f);refine⟨λu=>?_,Q⟩;rcases List.mem_cons.1 u with u|u
   ·exact B.1 (u▸List.mem_map_of_mem f)
   exact P u
  exact h.elim

end
end Go.Proofs.YtpifimohecagoaaGreatDoor
