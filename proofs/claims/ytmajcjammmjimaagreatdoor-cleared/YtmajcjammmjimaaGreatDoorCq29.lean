import Derived.Test.YtmajcjammmjimaaGreatDoorCq22
import Derived.Test.YtmajcjammmjimaaGreatDoorCq27
import Derived.Test.YtmajcjammmjimaaGreatDoorCq26
import Derived.Test.YtmajcjammmjimaaGreatDoorCq24
set_option maxRecDepth 100000
set_option maxHeartbeats 8000000
set_option linter.all false
namespace Go.Proofs.YtmajcjammmjimaaGreatDoor
open Go.Proofs.Tryz
variable{V:World}{F:Nat->Prop}{p:Nat}{bs r:List UInt8}{lim:Int}{c:UInt8}
section
open Go.RowKit
theorem qkG(k:Nat)(V:World)(p:Nat)(i d l:Int)(a:Option Addr)(n c:Nat)(r:Except (Int×Int) (DataW Unit))(h:qoS V p i d l (.slice a n c))(b:Calls prog 13 #[.int .i64 i,.agg #[.int .i64 d,.int .i64 l],.slice a n c] V (qey k V r)):Calls prog 12 #[.pointer (some ⟨p,0,none⟩),.pointer (some ⟨p+1,0,none⟩),.pointer (some ⟨p+2,0,none⟩),.pointer (some ⟨p+3,0,none⟩)] V (qey k V r):=by
 have q:=h.b0.cell;have s:=h.b1.cell;have c2:=h.b2.cell;have u:=h.b3.cell;clear h;rcases r with⟨v,w⟩|z
 ·go_enter func12,ntmps12
  go_wp2_with(first
   |(go_at_call 13;refine b.mono ?_;clear b;rintro e g ⟨f,hF⟩;obtain rfl:=hF))
  exact⟨rfl,f,rfl⟩
 go_enter func12,ntmps12
 go_wp2_with(first
  |(go_at_call 13;refine b.mono ?_;clear b;rintro e g ⟨f,hF⟩;obtain⟨t,y,rfl,m⟩:=hF;have o:Hid (qah k g (λj=>V.heap.size<=j/\j<g.heap.size) (.iface t y) z):=m;clear m))
 go_ret;exact⟨f,_,_,rfl,o.out⟩
def qme(k:Nat)(W:World)(fout:Int)(out:DataW Unit->List UInt8)(r:Except (Int×Int) (DataW Unit))(e:Ending)(W':World):Prop :=
 Below W.heap.size W W'/\match r with
 |.ok dd=>(fout=1/\qcM k dd=true/\e=.returned (.tuple #[.slice none 0 0,.int .i64 13,.int .i64 0]))\/(¬(fout=1/\qcM k dd=true)/\∃v,e=.returned (.tuple #[v,.int .i64 0,.int .i64 0])/\Own W' W.heap.size v (out dd))
 |.error (en,pl)=>e=.returned (.tuple #[.slice none 0 0,.int .i64 en,.int .i64 pl])
theorem qig(k:Nat)(V:World)(b:Int)(t:TypeId)(y:Value)(d:DataW Unit)(f:List UInt8)(p:qah k V (λj=>j<V.heap.size) (.iface t y) d)(r:¬(b=1/\qcM k d=true))(l:∀U,Below V.heap.size V U->Calls prog 34 #[.int .i64 b,.iface t y] U λe c=>∃a,e=.returned a/\Own c U.heap.size a f/\Below U.heap.size U c):Calls prog 14 #[.int .i64 b,.iface t y] V λe c=>∃a,e=.returned (.tuple #[a,.int .i64 0])/\Own c V.heap.size a f/\Below V.heap.size V c:=by
 cases m:(b==1)
 ·exact qrE V b t y f m (l V bwR)
 obtain rfl:b=1:=by simpa using m
 have q:qcM k d=false:=by cases s:qcM k d with|false=>rfl|true=>exact absurd ⟨rfl,s⟩ r
 have i:=qjE k V (λj=>j<V.heap.size) (.iface t y) d (λ_ h=>h) p;rw[q]at i;refine qol V t y f i (λU g=>(l U g).mono ?_);rintro e u ⟨a,rfl,n,o⟩;exact⟨a,rfl,Own.mono n g.size,o.mono g.size⟩
theorem qdD(k:Nat)(V:World)(t:TypeId)(y:Value)(a:DataW Unit)(d:qah k V (λj=>j<V.heap.size) (.iface t y) a)(f:qcM k a=true):Calls prog 14 #[.int .i64 1,.iface t y] V λe c=>e=.returned (.tuple #[.slice none 0 0,.int .i64 13])/\Below V.heap.size V c:=by
 have b:=qjE k V (λj=>j<V.heap.size) (.iface t y) a (λ_ h=>h) d;rw[f]at b;exact qnS V t y b
theorem qhD(k:Nat)(W:World)(b g d l:Int)(a:Option Addr)(n c:Nat)(r:Except (Int×Int) (DataW Unit))(out:DataW Unit->List UInt8)(R:qe3 b g d l=true)(H:∀A I,r=.error (A,I)->A≠0)(N:∀V,Below W.heap.size W V->Calls prog 13 #[.int .i64 b,.agg #[.int .i64 d,.int .i64 l],.slice a n c] V (qey k V r))(E:∀t y f V,r=.ok f->Below W.heap.size W V->qah k V (λj=>j<V.heap.size) (.iface t y) f->¬(g=1/\qcM k f=true)->Calls prog 34 #[.int .i64 g,.iface t y] V λe x=>∃D,e=.returned D/\Own x V.heap.size D (out f)/\Below V.heap.size V x):Calls prog 5 #[.int .i64 b,.int .i64 g,.int .i64 d,.int .i64 l,.slice a n c] W (qme k W g out r):=by
 have v:Hid (qoS (trW W b d l (.slice a n c)) W.heap.size b d l (.slice a n c)):=qwR ..;have h:Hid (Below W.heap.size W (trW W b d l (.slice a n c))):=qrz ..;have m:=qfJ b g d l (trW W b d l (.slice a n c));rw[R]at m;have ae:∀(P:Fn) (first O:Array Value) (w:World),(Instr.makeFunc P first O).run prog w=.ok (.func P first O) w:=λ_ _ _ _=>rfl;have q:Calls prog 11 #[.func (.func 12) #[] #[.pointer (some ⟨W.heap.size,0,none⟩),.pointer (some ⟨W.heap.size+1,0,none⟩),.pointer (some ⟨W.heap.size+2,0,none⟩),.pointer (some ⟨W.heap.size+3,0,none⟩)]] (trW W b d l (.slice a n c)) (qtu k (trW W b d l (.slice a n c)) r):=by
  have M:Below (trW W b d l (.slice a n c)).heap.size (trW W b d l (.slice a n c)) (((trW W b d l (.slice a n c)).alloc (.cells #[.int .i64 0] 28)).alloc (.cells #[.int .i64 0] 3)):=(bwA).alloc (by simp) _;refine qnW k _ _ r ?_;exact qkG k _ _ b d l a n c r (v.out.below M) (N _ (h.out.trans (M.mono h.out.size)))
 have c0:=v.out.b0.cell;have c1:=v.out.b1.cell;have c2:=v.out.b2.cell;clear v N;have L:Hid (trW W b d l (.slice a n c)=(((W.alloc (.cells #[.int .i64 b] 3)).alloc (.cells #[.int .i64 d] 3)).alloc (.cells #[.int .i64 l] 3)).alloc (.cells #[.slice a n c] 27)):=rfl;generalize trW W b d l (.slice a n c)=V at *;have hv:=L.out;subst hv;clear L R;rcases r with⟨A,I⟩|f
 ·have ac:=H A I rfl;have hq:(A==0)=false:=by simpa using ac
  clear H E;go_enter func5,ntmps5
  go_wp2_with(first
   |(go_at_call 10;refine m.mono ?_;clear m;rintro e X ⟨rfl,rfl⟩)
   |(go_at_call 11;refine q.mono ?_;clear q;rintro e u ⟨o,C⟩;obtain rfl:=C))
  go_ret3
  exact⟨h.out.trans (o.mono h.out.size),rfl⟩
 clear H;have ad:(g=1/\qcM k f=true)\/¬(g=1/\qcM k f=true):=Classical.em _;rcases ad with s|s
 ·obtain⟨rfl,T⟩:=s;have K:Hid (qcM k f=true):=T;clear T E;go_enter func5,ntmps5
  go_wp2_with(first
   |(go_at_call 10;refine m.mono ?_;clear m;rintro e X ⟨rfl,rfl⟩)
   |(go_at_call 11;refine q.mono ?_;clear q;rintro e u ⟨o,C⟩;obtain⟨t,y,rfl,B⟩:=C;have i:Hid (Below W.heap.size W u):=h.out.trans (o.mono h.out.size);have z:=qdD k u t y f (B.same (λj p=>p.2) (λ_ _=>rfl)) K.out;clear h o B)
   |(go_at_call 14;refine z.mono ?_;clear z;rintro e w5 ⟨rfl,F⟩))
  go_ret3
  exact⟨i.out.trans (F.mono i.out.size),.inl ⟨rfl,K.out,rfl⟩⟩
 have Y:Hid (¬(g=1/\qcM k f=true)):=s;have J:Hid (∀t y V,Below W.heap.size W V->qah k V (λj=>j<V.heap.size) (.iface t y) f->Calls prog 14 #[.int .i64 g,.iface t y] V λe x=>∃D,e=.returned (.tuple #[D,.int .i64 0])/\Own x V.heap.size D (out f)/\Below V.heap.size V x):=λt y V S Q=>qig k V g t y f (out f) Q s (λU G=>E t y f U rfl (S.trans (G.mono S.size)) (Q.same (λj p=>kai p G.size) (λj p=>G.block j p)) s);clear s E;go_enter func5,ntmps5
 go_wp2_with(first
  |(go_at_call 10;refine m.mono ?_;clear m;rintro e X ⟨rfl,rfl⟩)
  |(go_at_call 11;refine q.mono ?_;clear q;rintro e u ⟨o,C⟩;obtain⟨t,y,rfl,B⟩:=C;have i:Hid (Below W.heap.size W u):=h.out.trans (o.mono h.out.size);have z:=J.out t y u i.out (B.same (λj p=>p.2) (λ_ _=>rfl));clear h o B J)
  |(go_at_call 14;refine z.mono ?_;clear z;rintro e w5 ⟨v5,rfl,Z,F⟩;obtain⟨aa,ab,a5,n5,k5,rfl⟩:=Z))
 go_ret3
 exact⟨i.out.trans (F.mono i.out.size),.inr ⟨Y.out,_,rfl,Own.mono ⟨aa,ab,_,_,_,rfl⟩ i.out.size⟩⟩

end
section
open Go.RowKit Go.Lib
def qaM:Nat->DataW Unit->List UInt8
 |0,_=>[]
 |k+1,d=>match d with
  |.lit (.bool b)=>bif b then[116,114,117,101]else[102,97,108,115,101]
  |.lit (.int .i64 z)=>Lib.itoa z
  |.lit (.string l)=>jsT l
  |.agg ds=>([91]++qcu (qaM k) ds)++[93]
  |.map es=>([123]++qcu (qeZ (qaM k)) es)++[125]
  |_=>[110,117,108,108]
theorem qqs(W:World)(g:Nat)(v:Value)(b:Option Addr)(f d:Nat)(bs:List UInt8)(x:bs.length<=999999999)(h:Own W g v bs):Calls prog 50 #[v,.iface 118 (.slice b f d)] W λe k=>∃j,e=.returned j/\Own k g j (bs++[110,117,108,108])/\Below g W k:=by
 obtain⟨u,p,r,s,t⟩:=kaF Tryz.infoU8;obtain⟨a,n,c,rfl⟩:=h.2.2;have i:=qab h;have z:=qbX b f d;have A:=qbG b f d;have B:=qcs b f d;have C:∀w:World,(Instr.typeAssert (.iface 118 (.slice b f d)) 47 120 true).run prog w=.ok (.tuple #[.slice none 0 0,.bool false]) w:=λw=>by kernel_rfl
 have D:∀w:World,(Instr.typeAssert (.iface 118 (.slice b f d)) 47 122 true).run prog w=.ok (.tuple #[.slice none 0 0,.bool false]) w:=λw=>by kernel_rfl
 have l:(⟨([110,117,108,108]:List UInt8).toArray⟩:ByteArray).size=4:=rfl;go_enter func50,ntmps50
 go_wp2_with(first
  |(at_builtin;refine wpList_append_own_string _ rfl _ _ 27 9 rfl g 5 u underlying27 underlying9 p r s t _ _ _ rfl i.out.1 ⟨[110,117,108,108].toArray⟩ rfl (by rw[l];unfold maxLen;omega) (by rw[l];omega) i.out.2.1 ?_;intro j E q o y;have m:=qab (qaQ i.out q o)))
 go_ret;exact⟨_,rfl,m.out⟩
theorem qvP(W:World)(b:Nat)(v:Value)(bs:List UInt8)(z:Int)(o : -9223372036854775808<=z)(p:z<=9223372036854775807)(m:bs.length<=999999999)(h:Own W b v bs)(q:qgc b W):Calls prog 50 #[v,.iface 160 (.int .i64 z)] W λe d=>∃f,e=.returned f/\Own d b f (bs++Lib.itoa z)/\Below b W d:=by
 have g:=qj5 W b v bs z o p m h q;obtain⟨a,n,c,rfl⟩:=h.2.2;have u:=qd2 z;have w:=qgJ z;go_enter func50,ntmps50
 go_wp2_with(first
  |(go_at_call 66;refine g.mono ?_;rintro e y ⟨x,rfl,i,l⟩;obtain⟨j,k,r,t,s,rfl⟩:=i))
 go_ret;exact⟨_,rfl,⟨j,k,_,_,_,rfl⟩,l⟩
theorem qx7(W:World)(b:Nat)(v:Value)(bs l:List UInt8)(p:bs.length+(jsT l).length<=999999999)(h:Own W b v bs):Calls prog 50 #[v,.iface 162 (.string ⟨l.toArray⟩)] W λe d=>∃g,e=.returned g/\Own d b g (bs++jsT l)/\Below b W d:=by
 have f:=qiM W b v ⟨l.toArray⟩ bs p h;have i:jsT (⟨l.toArray⟩:ByteArray).data.toList=jsT l:=rfl;rw[i]at f;obtain⟨a,n,c,rfl⟩:=h.2.2;have t:=qeq ⟨l.toArray⟩;have u:=qdq ⟨l.toArray⟩;have w:=qfz ⟨l.toArray⟩;go_enter func50,ntmps50
 go_wp2_with(first
  |(go_at_call 67;refine f.mono ?_;rintro e y ⟨x,rfl,j,o,_⟩;obtain⟨k,m,q,s,r,rfl⟩:=j))
 go_ret;exact⟨_,rfl,⟨k,m,_,_,_,rfl⟩,o⟩
theorem qx2(W:World)(g:Nat)(v:Value)(q:Option Addr)(m b:Nat)(h:List UInt8)(p:∃a n c,v=.slice a n c)(i:Calls prog 68 #[v,.slice q m b] W λe d=>∃f,e=.returned f/\Own d g f h/\Below g W d):Calls prog 50 #[v,.iface 120 (.slice q m b)] W λe d=>∃f,e=.returned f/\Own d g f h/\Below g W d:=by
 obtain⟨a,n,c,rfl⟩:=p;have u:=qe0 q m b;have w:=qdz q m b;have x:=qfd q m b;have y:=qfu q m b;go_enter func50,ntmps50
 go_wp2_with(first
  |(go_at_call 68;refine i.mono ?_;rintro e A ⟨z,rfl,j,o⟩;obtain⟨k,l,r,t,s,rfl⟩:=j))
 go_ret;exact⟨_,rfl,⟨k,l,_,_,_,rfl⟩,o⟩
theorem qza(W:World)(g:Nat)(v:Value)(q:Option Addr)(m b:Nat)(h:List UInt8)(p:∃a n c,v=.slice a n c)(i:Calls prog 69 #[v,.slice q m b] W λe d=>∃f,e=.returned f/\Own d g f h/\Below g W d):Calls prog 50 #[v,.iface 122 (.slice q m b)] W λe d=>∃f,e=.returned f/\Own d g f h/\Below g W d:=by
 obtain⟨a,n,c,rfl⟩:=p;have u:=qfo q m b;have w:=qev q m b;have x:=qhn q m b;have y:=qho q m b;have z:=qjv q m b;go_enter func50,ntmps50
 go_wp2_with(first
  |(go_at_call 69;refine i.mono ?_;rintro e B ⟨A,rfl,j,o⟩;obtain⟨k,l,r,t,s,rfl⟩:=j))
 go_ret;exact⟨_,rfl,⟨k,l,_,_,_,rfl⟩,o⟩

theorem quN{α:Type}(f:α->List UInt8)(l:List α)(h:∀a,a∈l->1<=(f a).length):l.length<=(qcu f l).length:=by
 cases l with
 |nil=>simp
 |cons a l =>
  have c:=h a (ka5 ..);have d:=qcW (λe=>44::f e) l λb _=>by simp
  unfold qcu;rw[kaa,kah];omega
theorem qy2(n:Nat):1<=(decDigits n).length:=by
 unfold decDigits;split<;>simp
theorem qwe(z:Int):1<=(Lib.itoa z).length:=by
 unfold itoa;split
 ·simp
 exact qy2 _
theorem qrH:∀{k:Nat} {v:Value} {d:DataW Unit},qah k V F v d->1<=(qaM k d).length
 |0,_,_,h=>h.elim
 |k+1,v,d,h=>by
  unfold qah at h;split at h
  ·simp[qaM]
  ·rename_i b
   cases b<;>simp[qaM]
  ·exact qwe _
  ·exact qlF _
  ·simp[qaM]
  ·simp[qaM]
  ·simp[qaM]
  exact h.elim
theorem qkf:∀(k:Nat) (W:World) (a:Nat) (F:Nat->Prop) (x:Value) (d:DataW Unit),(∀j,F j->j<a)->qgc a W->qah k W F x d->qeN W a x (qaM k d)
 |0,_,_,_,_,_,_,_,h=>h.elim
 |k+1,W0,a,F,x,d,hF,hT0,h0=>by
  intro W v m K s S;have h:=h0.same (λ_ h=>h) (λj R=>K.block j (hF j R));have J:qgc a W:=Lib.TabBelow.on hT0 K;have C:m.length<=999999999:=by omega
  have M:∀y f,qah k W F y f->qeN W a y (qaM k f):=λy f T=>qkf k W a F y f hF J T;unfold qah at h;split at h
  ·subst h;exact qmE W a v m C s
  ·rename_i b
   subst h;cases b
   ·exact qgA W a v m C s
   exact qhA W a v m C s
  ·obtain⟨rfl,p,w⟩:=h;exact qvP W a v m _ p w C s J
  ·rename_i l
   subst h;exact qx7 W a v m l S s
  ·rename_i l
   obtain⟨u,rfl,z⟩:=h;obtain⟨q,n,c,rfl⟩:∃q n c,u=.slice q n c:=by
    rcases z.2 with⟨e,r⟩|⟨g,o,H,e,_⟩
    ·exact⟨_,_,_,e⟩
    exact⟨_,_,_,e⟩
   exact qqs W a v q n c m C s
  ·rename_i ds
   obtain⟨u,D,rfl,z,E⟩:=h;have X:D.length=ds.length:=by have:=z.1;omega
   have at_:∀i,i<ds.length->∃x f,D[i]?=some x/\ds[i]?=some f/\qah k W F x f:=λi B =>
    ⟨_,_,kab (by omega),kab B,E i _ _ (kab (by omega)) (kab B)⟩
   have Q:=quN (qaM k) ds λf P=>by
    obtain⟨i,B,rfl⟩:=kbv P;obtain⟨x,V,p,w,G⟩:=at_ i B;rw[kab B]at w;injection w with w;rw[w];exact qrH G
   have e:(qaM (k+1) (.agg ds)).length=1+(qcu (qaM k) ds).length+1:=by simp[qaM];omega
   obtain⟨q,o,rfl⟩:∃q o,u=.slice q ds.length o:=by
    rcases z.2 with⟨e,r⟩|⟨g,o,H,e,_⟩
    ·exact⟨none,0,by rw[e,r]⟩
    exact⟨_,_,e⟩
   have A:=qtc (qaM k) W a v q o F hF m ds D (by omega) (by omega) z (λi x f p w=>M x f (E i x f p w)) (λi x L=>by
    obtain⟨Y,f,p,w,G⟩:=at_ i (by have:=ltL L;omega);rw[L]at p;injection p with p;rw[p];exact G.iface) s
   have r:((m++[91])++qcu (qaM k) ds)++[93]=m++qaM (k+1) (.agg ds):=by simp[qaM]
   rw[r]at A;exact qx2 W a v q ds.length o _ s.2.2 A
  ·rename_i es
   obtain⟨u,D,rfl,z,E⟩:=h;have Q:=quN (qeZ (qaM k)) es λf _=>by simp[qeZ];omega
   have e:(qaM (k+1) (.map es)).length=1+(qcu (qeZ (qaM k)) es).length+1:=by simp[qaM];omega
   obtain⟨q,o,rfl⟩:∃q o,u=.slice q es.length o:=by
    rcases z.2 with⟨e,r⟩|⟨g,o,H,e,_⟩
    ·exact⟨none,0,by rw[e,r]⟩
    exact⟨_,_,e⟩
   have A:=qwz (qaM k) W a v q o F hF m es D (by omega) (by omega) z (λi U f p=>by
    obtain⟨l,x,N,r,O,I⟩:=E i U f p;obtain⟨t,y,rfl⟩:=I.iface;exact⟨l,t,y,N,r,O,M _ f I⟩) s
   have r:((m++[123])++qcu (qeZ (qaM k)) es)++[125]=m++qaM (k+1) (.map es):=by simp[qaM]
   rw[r]at A;exact qza W a v q es.length o _ s.2.2 A
  exact h.elim
theorem qiO(k:Nat)(W:World)(F:Nat->Prop)(x:Value)(d:DataW Unit)(hF:∀j,F j->j<W.heap.size)(n:qgc W.heap.size W)(h:qah k W F x d)(m:(qaM k d).length<=999999999):Calls prog 34 #[.int .i64 1,x] W λe a=>∃b,e=.returned b/\Own a W.heap.size b (qaM k d)/\Below W.heap.size W a:=by
 have c:=qkf k W W.heap.size F x d hF n h W _ [] bwR (qiQ W) (by simpa using m);obtain⟨t,y,rfl⟩:=h.iface;go_enter func34,ntmps34
 go_wp2_with(first
  |(go_at_call 50;refine c.mono ?_;rintro e s ⟨r,rfl,f,l⟩;obtain⟨g,i,o,q,p,rfl⟩:=f))
 go_ret;exact⟨_,rfl,⟨g,i,_,_,_,rfl⟩,l⟩

def wrO(fm:Int)(k:Nat)(d:DataW Unit):List UInt8:=if fm=1 then qaM k d else if fm=2 then qbc k d else qdn k d
theorem qtO(a:Int)(b:Nat)(l:List UInt8):(quz a b l).length=16:=qs8 _ (qrQ _ _ (qkX _ _))
theorem qi9(x:Nat):∀k,(beF x k).length=k
 |0=>rfl
 |k+1=>by unfold beF;rw[kah,qi9 x k]
theorem qgZ(s x:Nat):(qaj s x).length<=9:=by
 unfold qaj
 repeat' split
 all_goals simp[qi9]
theorem qdv(x:Nat):(qbr x).length<=9/\(qbq x).length<=9/\(qbm x).length<=9/\(qa1 x).length<=9/\(qbl x).length<=9:=by
 unfold qbr qbq qbm qa1 qbl;refine⟨?_,?_,?_,?_,?_⟩
 all_goals repeat' split
 all_goals simp[qi9]
theorem qrK(z:Int):(qfy z).length<=9:=by
 unfold qfy;split
 ·unfold qbu
  repeat' split
  all_goals simp[qi9]
 exact(qdv _).2.2.2.2
theorem qy9(z:Int):(qfw z).length<=9:=by
 unfold qfw;split<;>exact qgZ _ _
theorem qjw{α:Type}(f:α->List UInt8)(m:α->Nat):∀(l:List α),(∀a,a∈l->(f a).length<=m a)->(l.flatMap f).length<=(l.map m).sum
 |[],_=>kaf _
 |a::l,h=>by
  have d:=h a (ka5 ..);have e:=qjw f m l λb c=>h b (ka9 _ c);rw[kaZ,kaa,kaH,kbJ];omega
theorem qjq(c f g a:Nat->List UInt8)(j:Bool->List UInt8)(i:List UInt8)(nm:Int->List UInt8)(h:∀x,(c x).length<=9/\(f x).length<=9/\(g x).length<=9/\(a x).length<=9)(m:∀b,(j b).length<=9)(o:i.length<=9)(n:∀z,(nm z).length<=9):∀(k:Nat) (d:DataW Unit),(wrF c f g a j i nm k d).length<=szF k d
 |0,_=>kaf _
 |k+1,d=>by
  unfold wrF;split
  ·show _<=200;omega
  ·show _<=200;have:=m ‹Bool›;omega
  ·show _<=200;have:=n ‹Int›;omega
  ·next l=>show _<=200+6*l.length;have:=h l.length;rw[kaa];omega
  ·next l=>show _<=200+6*l.length;have:=h l.length;rw[kaa];omega
  ·next ds =>
   show _<=200+(ds.map λd=>30+szF k d).sum;have p:=h ds.length;have q:=qjw (wrF c f g a j i nm k) (λd=>30+szF k d) ds (λd _=>kaj (qjq c f g a j i nm h m o n k d) (kbk _ _));rw[kaa];omega
  ·next es =>
   show _<=200+(es.map λe=>100+6*(qaN e.1).length+szF k e.2).sum;have p:=h es.length;have q:=qjw (λe:Lit×DataW Unit=>(a (qaN e.1).length++qaN e.1)++wrF c f g a j i nm k e.2) (λe=>100+6*(qaN e.1).length+szF k e.2) es (λe _=>by
    have r:=qjq c f g a j i nm h m o n k e.2;have s:=h (qaN e.1).length;rw[kaa,kaa];omega)
   rw[kaa];omega
  exact kaY _
theorem qkE(k:Nat)(d:DataW Unit):(qbc k d).length<=szF k d :=
 qjq _ _ _ _ _ _ _ (λx=>⟨qgZ _ _,qgZ _ _,qgZ _ _,qgZ _ _⟩) (λb=>by unfold qrx;cases b<;>exact qgZ _ _) (qgZ _ _) qy9 k d
theorem qqq(k:Nat)(d:DataW Unit):(qdn k d).length<=szF k d :=
 qjq _ _ _ _ _ _ _ (λx=>⟨(qdv x).1,(qdv x).2.1,(qdv x).2.2.1,(qdv x).2.2.2.1⟩) (λb=>by unfold qrY;cases b<;>decide) (by decide) qrK k d
theorem qw5(r:Nat):(qjQ r).length<=6:=by
 unfold qjQ;split
 ·simp
 split
 ·simp
 exact kaj (qcv _).2 (by omega)
theorem qkW:∀(g:Nat) (l:List UInt8),(qdC g l).length<=6*g
 |0,_=>kaf _
 |g+1,[]=>kaY _
 |g+1,b::t=>by
  unfold qdC;have a:=qw5 (decodeL (b::t)).1;have c:=qkW g ((b::t).drop (decodeL (b::t)).2);rw[kaa];omega
theorem qpq(l:List UInt8):(jsT l).length<=2+6*l.length:=by
 unfold jsT;have:=qkW l.length l;simp only[kaa,kah,kay];omega
theorem qqP{α:Type}(T:α->List UInt8)(m:α->Nat)(l:List α)(h:∀a,a∈l->(T a).length+1<=m a):(qcu T l).length<=(l.map m).sum:=by
 cases l with
 |nil=>exact kaf _
 |cons a l =>
  unfold qcu;have d:=h a (ka5 ..);have f:=qjw (λe=>44::T e) m l (λb c=>by have:=h b (ka9 _ c);rw[kah];exact this);rw[kaa,kaH,kbJ];omega
theorem qlz:∀(k:Nat) (d:DataW Unit),30*ndF k d<=szF k d
 |0,_=>kaf _
 |k+1,d=>by
  unfold ndF szF;split
  ·next ds =>
   have b:30*(ds.map λd=>1+ndF k d).sum<=(ds.map λd=>30+szF k d).sum:=by
    induction ds with
    |nil=>exact kaf _
    |cons a l c =>
     have:=qlz k a;rw[kaH,kbJ,kaH,kbJ];omega
   simp only[];omega
  ·next es =>
   have b:30*(es.map λe=>2+ndF k e.2).sum<=(es.map λe=>100+6*(qaN e.1).length+szF k e.2).sum:=by
    induction es with
    |nil=>exact kaf _
    |cons a l c =>
     have:=qlz k a.2;rw[kaH,kbJ,kaH,kbJ];omega
   simp only[];omega
  split<;>omega
theorem qvR(k:Nat)(d:DataW Unit):200<=szF (k+1) d:=by
 unfold szF;split<;>omega
theorem qyM(k:Nat)(f:DataW Unit->Rep->Option (DataW Unit)×Rep)(g:∀d R c,(f d R).1=some c->szF k c<=2*szF k d)(b:List (DataW Unit)):∀(a:List (DataW Unit)×Rep),sqL k (b.foldl (λa d=>(a.1++(f d a.2).1.toList,(f d a.2).2)) a).1<=sqL k a.1+2*sqL k b:=by
 induction b with
 |nil=>intro a;exact kbV _ _
 |cons d b i =>
  intro a;rw[kbT];refine kaj (i _) ?_;have e:sqL k (d::b)=30+szF k d+sqL k b:=by unfold sqL;rw[kaH,kbJ]
  rw[e];dsimp only
  cases h:(f d a.2).1 with
  |none=>rw[kdW,kbj];omega
  |some c =>
   have:=g d a.2 c h;rw[kdX,qiU];omega
theorem qyj(k:Nat)(f:List UInt8->DataW Unit->Rep->Option (DataW Unit)×Rep)(j:∀l d R b,(f l d R).1=some b->szF k b<=2*szF k d)(c:List (Lit×DataW Unit)):∀(a:List (Lit×DataW Unit)×Rep),sqE k (c.foldl (λa e=>(a.1++((f (qaN e.1) e.2 a.2).1.map λd=>(e.1,d)).toList,(f (qaN e.1) e.2 a.2).2)) a).1<=sqE k a.1+2*sqE k c:=by
 induction c with
 |nil=>intro a;exact kbV _ _
 |cons d g m =>
  intro a;rw[kbT];refine kaj (m _) ?_;have e:sqE k (d::g)=100+6*(qaN d.1).length+szF k d.2+sqE k g:=by unfold sqE;rw[kaH,kbJ]
  rw[e];dsimp only
  cases h:(f (qaN d.1) d.2 a.2).1 with
  |none=>rw[Option.map_none,kdW,kbj];omega
  |some b =>
   have:=j (qaN d.1) d.2 a.2 b h;have i:sqE k (a.1++[(d.1,b)])=sqE k a.1+(100+6*(qaN d.1).length+szF k b):=by unfold sqE;simp
   rw[kc9,kdX,i];omega
theorem qrZ(c:Rv):∀(k:Nat) (p:List (List UInt8×Bool)) (d:DataW Unit) (R:Rep) (a:DataW Unit),(rwF c k p d R).1=some a->szF k a<=2*szF k d
 |0,_,_,_,_,h=>by cases h
 |k+1,p,d,R,a,h=>by
  have g:=qvR k d;unfold rwF at h;split at h
  ·injection h with h;subst h;unfold shF;split
   ·next ds =>
    have b:=qyM k (rwF c k (([],true)::p)) (λd R a=>qrZ c k _ d R a) ds ([],(R.1+1,R.2));have e:sqL k ([]:List (DataW Unit))=0:=rfl;show 200+sqL k (rwL _ ds _).1<=2*(200+sqL k ds);unfold rwL;dsimp only at b;omega
   ·next es =>
    have b:=qyj k (λf=>rwF c k ((f,false)::p)) (λl d R a=>qrZ c k _ d R a) es ([],(R.1+1,R.2));have e:sqE k ([]:List (Lit×DataW Unit))=0:=rfl;show 200+sqE k (rwE _ es _).1<=2*(200+sqE k es);unfold rwE;dsimp only at b ⊢;omega
   dsimp only;omega
  split at h
  ·injection h with h;subst h;show 200+6*3<=_;omega
  split at h
  ·injection h with h;subst h;have:=qtO c.key (lbF c.dflt c.rs p.reverse).1.toNat (qbc (k+1) d);show 200+6*(quz _ _ _).length<=_;rw[this];omega
  cases h
theorem qy1(c:Rv)(k:Nat)(d:DataW Unit)(R:Rep):szF k ((rwF c k [] d R).1.getD .nil)<=2*szF k d+200:=by
 cases h:(rwF c k [] d R).1 with
 |none=>cases k with
  |zero=>exact kaY _
  |succ k=>show 200<=_;omega
 |some a =>
  have:=qrZ c k [] d R a h;show szF k a<=_;omega
theorem qhd:∀{k:Nat} {v:Value} {d:DataW Unit},qah k V F v d->(qaM k d).length<=szF k d
 |0,_,_,h=>h.elim
 |k+1,v,d,h=>by
  unfold qah at h;unfold qaM;split at h
  ·show 4<=200;omega
  ·next b=>show(bif b then _ else _:List UInt8).length<=200;cases b<;>decide
  ·next z =>
   have:=itoa_length_le z h.2.1 h.2.2;show(itoa z).length<=200;omega
  ·next l =>
   have:=qpq l;show(jsT l).length<=200+6*l.length;omega
  ·next l =>
   show 4<=200+6*l.length;omega
  ·next ds =>
   obtain⟨u,f,_,j,a⟩:=h;show(([91]++qcu (qaM k) ds)++[93]).length<=200+sqL k ds;have g:=qqP (qaM k) (λd=>30+szF k d) ds (λd n=>by
    obtain⟨i,c,rfl⟩:=kcX.1 n;have p:i<f.length:=by have:=j.1;omega
    have:=qhd (a i f[i] ds[i] (kab p) (kab c));omega)
   have e:sqL k ds=(ds.map λd=>30+szF k d).sum:=rfl;simp only[kaa,kah,kay];omega
  ·next es =>
   obtain⟨u,f,_,j,a⟩:=h;show(([123]++qcu (qeZ (qaM k)) es)++[125]).length<=200+sqE k es;have g:=qqP (qeZ (qaM k)) (λe=>100+6*(qaN e.1).length+szF k e.2) es (λe o=>by
    obtain⟨i,c,rfl⟩:=kcX.1 o;obtain⟨l,x,g,_,_,m⟩:=a i es[i].1 es[i].2 (kab c);have q:=qhd m;have r:=qpq (qaN es[i].1);unfold qeZ;simp only[kaa,kah,kay];omega)
   have e:sqE k es=(es.map λe=>100+6*(qaN e.1).length+szF k e.2).sum:=rfl;simp only[kaa,kah,kay];omega
  exact h.elim
theorem qpm(a:Int){k:Nat}{v:Value}{d:DataW Unit}(h:qah k V F v d):(wrO a k d).length<=szF k d:=by
 unfold wrO;split
 ·exact qhd h
 split
 ·exact qkE k d
 exact qqq k d

def qop(r:List UInt8):Prop:=∀c,r[0]?=some c->qbO c=false/\¬(c.toNat=46\/c.toNat=101\/c.toNat=69)
theorem qp9(bs:List UInt8)(lim:Int)(f:Nat)(q:(bs.length:Int)<=lim)(z:Bool)(rest:List UInt8)(m:qop rest):∀(a:List UInt8) (g p e:Nat),bs.drop p=a++rest->(∀c∈a,qbO c=true)->qoZ a e<=f->a.length<g->(a≠[]->z=false)->qeA bs lim f z g p e=.ok (qoZ a e,p+a.length)
 |[],g,p,e,b,_,_,hg,_=>by
  obtain⟨g,rfl⟩:∃h,g=h+1:=⟨g-1,by simp at hg;omega⟩
  cases rest with
  |nil =>
   rw[qeA,qrw b];rfl
  |cons c r =>
   obtain⟨i,j,o⟩:=qak (show bs.drop p=c::r from b);have k:=m c rfl;rw[qeA,i];simp only[];rw[kac (by omega),kac (by rw[k.1];decide),kac k.2];rfl
 |c::a,g,p,e,b,ha,hv,hg,hz=>by
  obtain⟨i,j,o⟩:=qak b;obtain⟨g,rfl⟩:∃h,g=h+1:=⟨g-1,by simp at hg;omega⟩
  have l:=ha c (ka5 ..);have t:e*10+(c.toNat-48)<=f:=kaj (qpD a _) hv;have s:=kaq l;have n:=hz (by simp);rw[qeA,i];simp only[];rw[kac (by omega),kag l,kac (by rw[n];decide),kac (by omega),qp9 bs lim f q z rest m a g (p+1) _ j (λd b=>ha d (ka9 _ b)) hv (by rw[kah]at hg;omega) (λ_=>n)];rw[show p+1+a.length=p+(c::a).length by rw[kah];omega];rfl
theorem qzk(m:(bs.length:Int)<=lim){z:Int}(x : -9223372036854775808<=z)(y:z<=9223372036854775807){rest:List UInt8}(n:qop rest)(a:bs.drop p=Lib.itoa z++rest):∃c,bs[p]?=some c/\p<bs.length/\(c.toNat=45\/qbO c=true)/\qel ⟨none,bs,0,0,lim,p+1,0⟩ c=.ok (z,p+(Lib.itoa z).length):=by
 obtain⟨c,cs,j,h,k,l,t,u,_⟩:=qd8 z.natAbs;have A:=kaq h;have b:=congrArg List.length a;rw[kaR,kaa]at b;have q:cs≠[]->(c.toNat==48)=false:=λv=>by
  simp only[ka1];intro e;exact v (u (t e)).2
 by_cases o:z<0
 ·have i:Lib.itoa z=45::c::cs:=by unfold Lib.itoa;rw[kag o,j]
  rw[i]at a b ⊢;obtain⟨d,f,g⟩:=qak a;obtain⟨r,s,w⟩:=qak f;refine⟨45,d,g,.inl rfl,?_⟩;unfold qel;rw[kag (by rfl),r];simp only[];rw[kac (by omega),kag h];rw[qp9 bs lim 9223372036854775808 m _ rest n cs _ (p+1+1) (c.toNat-48) s k (by omega) (by simp only[kah]at b;omega) q,l];simp only[kah];congr 2
  ·omega
  omega
 have i:Lib.itoa z=c::cs:=by unfold Lib.itoa;rw[kac o,show z.toNat=z.natAbs by omega,j]
 rw[i]at a b ⊢;obtain⟨d,f,g⟩:=qak a;refine⟨c,d,g,.inr h,?_⟩;unfold qel;rw[kac (by omega)];rw[qp9 bs lim 9223372036854775807 m _ rest n cs _ (p+1) (c.toNat-48) f k (by omega) (by simp only[kah]at b ⊢;omega) q,l];simp only[kah];congr 2
 ·omega
 omega
theorem qgS(d:(bs.length:Int)<=lim)(rest:List UInt8):∀(l:List UInt8) (p:Nat),bs.drop p=l++rest->qaO bs lim l p=.ok ((),p+l.length)
 |[],p,_=>rfl
 |c::l,p,hd=>by
  obtain⟨a,b,e⟩:=qak hd;rw[qaO,a];simp only[];rw[kac (by omega),kag kcq,qgS d rest l (p+1) b,show p+1+l.length=p+(c::l).length by rw[kah];omega]
theorem qdH(i:(bs.length:Int)<=lim)(d:bs.drop p=c::r)(b:quM c=false):spF bs lim (bs.length+1-p) p=.ok ((),p):=by
 obtain⟨a,f,h⟩:=qak d;obtain⟨g,e⟩:∃g,bs.length+1-p=g+1:=⟨bs.length-p,by omega⟩
 rw[e,spF,a];simp only[];rw[kac (by omega),b,kac (by decide)]

def Beg(l:List UInt8):Prop:=∃c r,l=c::r/\quM c=false/\¬c.toNat=93/\¬c.toNat=125
theorem qmP(h:c.toNat=44\/c.toNat=93\/c.toNat=125):qop (c::r):=by
 intro x a;injection a with a;subst a;refine⟨?_,by omega⟩
 cases b:qbO c with
 |false=>rfl
 |true=>have:=kaq b;omega
theorem qzr(h:c.toNat=44\/c.toNat=93\/c.toNat=125\/c.toNat=58):quM c=false:=by
 unfold quM;rcases h with h|h|h|h<;>rw[h]<;>rfl
section
variable{α β:Type} {bs:List UInt8} {lim:Int} {itF:α->Nat->Except (Int×Int) (α×Nat)} {st:α->β->α} {T:β->List UInt8} {Inv:α->List β->Prop} {last:UInt8}
theorem quu(i:(bs.length:Int)<=lim)(s:last.toNat=93\/last.toNat=125)(rest:List UInt8)(H:∀a y b p r,Inv a (y::b)->qop r->bs.drop p=T y++r->itF a p=.ok (st a y,p+(T y).length)/\Inv (st a y) b)(n:∀a y b,Inv a (y::b)->Beg (T y)):∀(j:List β) (x:β) (g p:Nat) (a:α),Inv a (x::j)->bs.drop p=T x++((j.flatMap λe=>44::T e)++last::rest)->j.length+1<=g->qfZ bs lim itF last.toNat g p a=.ok ((x::j).foldl st a,p+(T x).length+(j.flatMap λe=>44::T e).length+1)
 |[],x,g,p,a,hI,hd,hg=>by
  obtain⟨g,rfl⟩:∃l,g=l+1:=⟨g-1,by simp at hg;omega⟩
  obtain⟨c,r,e,o,_⟩:=n a x [] hI;have d:=hd;rw[e]at d;obtain⟨m,_⟩:=H a x [] p _ hI (qmP (c:=last) (r:=rest) (by omega)) hd;have f:bs.drop (p+(T x).length)=last::rest:=by rw[<-kbf,hd,kba];rfl
  obtain⟨k,q,t⟩:=qak f;rw[qfZ,qdH i d o];simp only[];rw[m];simp only[];rw[qdH i f (qzr (by omega))];simp only[];rw[k];simp only[];rw[kac (by omega),kag kcq];rfl
 |y::b,x,g,p,a,hI,hd,hg=>by
  obtain⟨g,rfl⟩:∃l,g=l+1:=⟨g-1,by simp at hg;omega⟩
  obtain⟨c,r,e,o,_⟩:=n a x _ hI;have d:=hd;rw[e]at d;rw[kaZ,kap]at hd;obtain⟨m,u⟩:=H a x _ p _ hI (qmP (c:=44) (.inl rfl)) hd;have f:bs.drop (p+(T x).length)=44::(T y++((b.flatMap λe=>44::T e)++last::rest)):=by rw[<-kbf,hd,kba];rfl
  obtain⟨k,q,t⟩:=qak f;rw[qfZ,qdH i d o];simp only[];rw[m];simp only[];rw[qdH i f (by rfl)];simp only[];rw[k];simp only[];rw[kac (by omega),kac (by rcases s with h|h<;>rw[h]<;>decide),kag (by rfl),quu i s rest H n b y g _ (st a x) u q (by rw[kah]at hg;omega)];rw[kbT,kaZ,kaa,kah];congr 2;omega
theorem quJ(k:(bs.length:Int)<=lim)(q:last.toNat=93\/last.toNat=125)(rest:List UInt8)(H:∀b y f p r,Inv b (y::f)->qop r->bs.drop p=T y++r->itF b p=.ok (st b y,p+(T y).length)/\Inv (st b y) f)(m:∀b y f,Inv b (y::f)->Beg (T y))(d:List β)(p:Nat)(b:α)(l:Inv b d)(h:bs.drop p=qcu T d++last::rest):qdV bs lim itF last.toNat p b=.ok (d.foldl st b,p+(qcu T d).length+1):=by
 unfold qdV
 cases d with
 |nil =>
  obtain⟨g,n,o⟩:=qak (show bs.drop p=last::rest from h);rw[qdH k (show bs.drop p=last::rest from h) (qzr (by omega))];simp only[];rw[g];simp only[];rw[kac (by omega),kag kcq];rfl
 |cons x d =>
  obtain⟨c,r,e,t,u,v⟩:=m b x d l;have i:bs.drop p=T x++((d.flatMap λe=>44::T e)++last::rest):=by rw[h];unfold qcu;rw[kap]
  have j:=i;rw[e]at j;obtain⟨g,n,o⟩:=qak j;have s:=congrArg List.length i;rw[kaR,kaa,kaa,kah]at s;have w:d.length<=(d.flatMap λe=>44::T e).length:=qcW _ d (λa _=>by simp);rw[qdH k j t];simp only[];rw[g];simp only[];rw[kac (by omega),kac (by omega),quu k q rest H m d x _ p b l i (by omega)];unfold qcu;rw[kaa,kbm p]
end
theorem qtb(b c:List (DataW Unit)):b.foldl (λa d=>a++[d]) c=c++b:=by
 induction b generalizing c with
 |nil=>simp
 |cons d b e=>rw[kbT,e,kap];rfl
def qz2(a:List (List UInt8)×List (Lit×DataW Unit))(e:Lit×DataW Unit):List (List UInt8)×List (Lit×DataW Unit):=(qaN e.1::a.1,a.2++[e])
theorem qug(b:List (Lit×DataW Unit)):∀a,(b.foldl qz2 a).2=a.2++b:=by
 induction b with
 |nil=>intro a;simp
 |cons e b c=>intro a;rw[kbT,c];unfold qz2;rw[kap];rfl
theorem quI:∀{k:Nat} {d:DataW Unit},Gd k d->qcM k d=false->Beg (qaM k d)
 |0,_,h,_=>h.elim
 |k+1,d,h,hh=>by
  unfold Gd at h;unfold qaM;split at h
  ·exact⟨110,_,rfl,rfl,by decide,by decide⟩
  ·next b=>cases b;exact⟨102,_,rfl,rfl,by decide,by decide⟩;exact⟨116,_,rfl,rfl,by decide,by decide⟩
  ·next z =>
   obtain⟨c,cs,a,e,_⟩:=qd8 z.natAbs;have f:=kaq e;simp only[];unfold Lib.itoa;split
   ·exact⟨45,_,rfl,rfl,by decide,by decide⟩
   rw[show z.toNat=z.natAbs by omega,a];refine⟨c,cs,rfl,?_,by omega,by omega⟩;unfold quM;simp;omega
  ·exact⟨34,_,rfl,rfl,by decide,by decide⟩
  ·unfold qcM at hh;cases hh
  ·exact⟨91,_,rfl,rfl,by decide,by decide⟩
  ·exact⟨123,_,rfl,rfl,by decide,by decide⟩
  exact h.elim
theorem quO(bs:List UInt8)(lim depth:Int)(j:(bs.length:Int)<=lim):∀(k g t:Nat) (d:DataW Unit) (p:Nat) (n:List UInt8),Gd k d->qcM k d=false->k<=g->(k:Int)+t<=depth+1->qop n->bs.drop p=qaM k d++n->thJ bs lim depth (λc p=>qel ⟨none,bs,0,0,lim,p,0⟩ c) g t p=.ok (d,p+(qaM k d).length)
 |0,_,_,_,_,_,h,_,_,_,_,_=>h.elim
 |k+1,0,_,_,_,_,_,_,hg,_,_,_=>by omega
 |k+1,g+1,t,d,p,n,h,hh,hg,hw,hr,hd=>by
  have J:=quO bs lim depth j k g (t+1);unfold Gd at h;unfold qcM at hh;unfold qaM at hd ⊢;rw[thJ];split at h
  ·obtain⟨i,o,q⟩:=qak hd;rw[i];simp only[];rw[kac (by omega)];unfold qjM;rw[kag (by rfl),qgS j n [117,108,108] _ o];rfl
  ·next b =>
   cases b
   ·obtain⟨i,o,q⟩:=qak hd;rw[i];simp only[];rw[kac (by omega)];unfold qjM;rw[kac (by decide),kac (by decide),kag (by rfl),qgS j n [97,108,115,101] _ o];rfl
   obtain⟨i,o,q⟩:=qak hd;rw[i];simp only[];rw[kac (by omega)];unfold qjM;rw[kac (by decide),kag (by rfl),qgS j n [114,117,101] _ o];rfl
  ·next z =>
   obtain⟨c,i,q,H,v⟩:=qzk j h.1 h.2 hr hd;have Y:c.toNat=45\/(48<=c.toNat/\c.toNat<=57):=by
    rcases H with e|e
    ·exact .inl e
    have:=kaq e;omega
   rw[i];simp only[];rw[kac (by omega)];unfold qjM;rw[kac (by omega),kac (by omega),kac (by omega),kac (by omega),kac (by omega),kac (by omega),kag H];simp only[];rw[v]
  ·next l =>
   obtain⟨i,q,v⟩:=quq j h hd;rw[i];simp only[];rw[kac (by omega)];unfold qjM;rw[kac (by decide),kac (by decide),kac (by decide),kag (by rfl),v]
  ·cases hh
  ·next ds =>
   simp only[kap]at hd;obtain⟨i,o,q⟩:=qak (show bs.drop p=91::(qcu (qaM k) ds++([93]++n))from hd);rw[i];simp only[];rw[kac (by omega)];unfold qjM;rw[kac (by decide),kac (by decide),kac (by decide),kac (by decide),kag (by rfl),kac (by have:=h.1;omega)];have w:∀x∈ds,qcM k x=false:=λx f=>by
    cases e:qcM k x with
    |false=>rfl
    |true=>have:ds.any (qcM k)=true:=kbi.2 ⟨x,f,e⟩;simp only[]at hh;rw[this]at hh;cases hh
   have:=quJ (bs:=bs) (lim:=lim) (itF:=liJ (thJ bs lim depth (λc p=>qel ⟨none,bs,0,0,lim,p,0⟩ c) g (t+1))) (st:=λa d=>a++[d]) (T:=qaM k) (Inv:=λ_ l=>∀x∈l,Gd k x/\qcM k x=false) (last:=93) j (.inl rfl) n (λK y U p r m A s=>?_) (λ_ y _ m=>quI (m y (ka5 ..)).1 (m y (ka5 ..)).2) ds (p+1) [] (λx f=>⟨h.2 x f,w x f⟩) o
   ·rw[show qdV bs lim (liJ _) 93 (p+1) []=_ from this];simp only[kaa,kah,kay];rw[qtb,kbl];congr 2;omega
   refine⟨?_,λx f=>m x (ka9 _ f)⟩;unfold liJ;rw[J y p r (m y (ka5 ..)).1 (m y (ka5 ..)).2 (by omega) (by omega) A s]
  ·next es =>
   simp only[kap]at hd;obtain⟨i,o,q⟩:=qak (show bs.drop p=123::(qcu (qeZ (qaM k)) es++([125]++n))from hd);rw[i];simp only[];rw[kac (by omega)];unfold qjM;rw[kac (by decide),kac (by decide),kac (by decide),kac (by decide),kac (by decide),kag (by rfl),kac (by have:=h.1;omega)];have w:∀x∈es,qcM k x.2=false:=λx f=>by
    cases e:qcM k x.2 with
    |false=>rfl
    |true=>have:(es.any λe=>qcM k e.2)=true:=kbi.2 ⟨x,f,e⟩;simp only[]at hh;rw[this]at hh;cases hh
   have:=quJ (bs:=bs) (lim:=lim) (itF:=enJ bs lim (thJ bs lim depth (λc p=>qel ⟨none,bs,0,0,lim,p,0⟩ c) g (t+1))) (st:=qz2) (T:=qeZ (qaM k)) (Inv:=λa l=>(l.map λe=>qaN e.1).Nodup/\∀x∈l,(¬qaN x.1∈a.1)/\(∃l,x.1=.string l/\Vt l)/\Gd k x.2/\qcM k x.2=false) (last:=125) j (.inr rfl) n (λK y U p r m A s=>?_) (λ_ y _ m=>⟨34,_,rfl,rfl,by decide,by decide⟩) es (p+1) ([],[]) ⟨h.2.1,λx f=>⟨(λe=>by cases e),(h.2.2 x f).1,(h.2.2 x f).2,w x f⟩⟩ o
   ·rw[show qdV bs lim (enJ _ _ _) 125 (p+1) ([],[])=_ from this];simp only[kaa,kah,kay];rw[qug];congr 2;omega
   obtain⟨R,⟨l,E,M⟩,G,hF⟩:=m.2 y (ka5 ..);have F:qaN y.1=l:=by rw[E];rfl
   have B:=m.1;rw[kaH,List.nodup_cons]at B;refine⟨?_,B.2,λx f=>?_⟩
   ·unfold qeZ at s;simp only[kap]at s;obtain⟨L,V,v⟩:=quq j (F▸M:Vt (qaN y.1)) s;have C:bs.drop (p+(jsT (qaN y.1)).length)=58::(qaM k y.2++r):=by rw[<-kbf,s,kba];rfl
    obtain⟨W,D,X⟩:=qak C;obtain⟨c,Z,f1,O,_⟩:=quI G hF;have I:=D;rw[f1]at I;unfold enJ qlw;have S:qaO bs lim [34] p=.ok ((),p+1):=by
     rw[qaO,L];simp only[];rw[kac (by omega),kag kcq];rfl
    rw[S];simp only[];rw[v];simp only[];rw[kac R];simp only[];rw[qdH j C (by rfl)];simp only[];rw[show qaO bs lim [58] (p+(jsT (qaN y.1)).length)=.ok ((),p+(jsT (qaN y.1)).length+1)from qgS j _ [58] _ C];simp only[];rw[qdH j I O];simp only[];rw[J y.2 _ r G hF (by omega) (by omega) A D];simp only[];unfold qz2 qeZ;have N:(Lit.string (qaN y.1),y.2)=y:=by rw[F,<-E]
    rw[N];simp only[kaa,kah,kay];congr 2;omega
   obtain⟨P,Q⟩:=m.2 x (ka9 _ f);refine⟨λu=>?_,Q⟩;rcases kbR.1 u with u|u
   ·exact B.1 (u▸kc6 f)
   exact P u
  exact h.elim

end
end Go.Proofs.YtmajcjammmjimaaGreatDoor
