import Derived.Lib.ValidU
import Derived.Test.YtmajcjammmjimaaGreatDoorCq07
set_option maxRecDepth 100000
set_option maxHeartbeats 8000000
set_option linter.all false
namespace Go.Proofs.YtmajcjammmjimaaGreatDoor
open Go.Proofs.Tryz
variable{P:Program}{ops:Array Oper}{o:Oper}{a:Act}{Q:Exit->Act->World->Prop}{V W':World}{F:Nat->Prop}
section
open Go.RowKit Go.Lib
theorem qcC  : ∀w:World,(Instr.typeAssert (.iface 196 (.agg #[])) 47 158 true).run prog w=.ok (.tuple #[.bool false,.bool false]) w:=λw=>by kernel_rfl
theorem qcr  : ∀w:World,(Instr.typeAssert (.iface 196 (.agg #[])) 47 160 true).run prog w=.ok (.tuple #[.int .i64 0,.bool false]) w:=λw=>by kernel_rfl
theorem qde  : ∀w:World,(Instr.typeAssert (.iface 196 (.agg #[])) 47 162 true).run prog w=.ok (.tuple #[.string ByteArray.empty,.bool false]) w:=λw=>by kernel_rfl
theorem qdX  : ∀w:World,(Instr.typeAssert (.iface 196 (.agg #[])) 47 118 true).run prog w=.ok (.tuple #[.slice none 0 0,.bool false]) w:=λw=>by kernel_rfl
theorem qdf  : ∀w:World,(Instr.typeAssert (.iface 196 (.agg #[])) 47 120 true).run prog w=.ok (.tuple #[.slice none 0 0,.bool false]) w:=λw=>by kernel_rfl
theorem qd3  : ∀w:World,(Instr.typeAssert (.iface 196 (.agg #[])) 47 122 true).run prog w=.ok (.tuple #[.slice none 0 0,.bool false]) w:=λw=>by kernel_rfl
theorem qb9(b:Bool):∀w:World,(Instr.typeAssert (.iface 158 (.bool b)) 47 158 true).run prog w=.ok (.tuple #[.bool b,.bool true]) w:=λw=>by kernel_rfl
theorem qeq(s:ByteArray):∀w:World,(Instr.typeAssert (.iface 162 (.string s)) 47 158 true).run prog w=.ok (.tuple #[.bool false,.bool false]) w:=λw=>by kernel_rfl
theorem qdq(s:ByteArray):∀w:World,(Instr.typeAssert (.iface 162 (.string s)) 47 160 true).run prog w=.ok (.tuple #[.int .i64 0,.bool false]) w:=λw=>by kernel_rfl
theorem qfz(s:ByteArray):∀w:World,(Instr.typeAssert (.iface 162 (.string s)) 47 162 true).run prog w=.ok (.tuple #[.string s,.bool true]) w:=λw=>by kernel_rfl
theorem qbX(a:Option Addr)(n c:Nat):∀w:World,(Instr.typeAssert (.iface 118 (.slice a n c)) 47 158 true).run prog w=.ok (.tuple #[.bool false,.bool false]) w:=λw=>by kernel_rfl
theorem qbG(a:Option Addr)(n c:Nat):∀w:World,(Instr.typeAssert (.iface 118 (.slice a n c)) 47 160 true).run prog w=.ok (.tuple #[.int .i64 0,.bool false]) w:=λw=>by kernel_rfl
theorem qcs(a:Option Addr)(n c:Nat):∀w:World,(Instr.typeAssert (.iface 118 (.slice a n c)) 47 162 true).run prog w=.ok (.tuple #[.string ByteArray.empty,.bool false]) w:=λw=>by kernel_rfl
theorem qc2(a:Option Addr)(n c:Nat):∀w:World,(Instr.typeAssert (.iface 118 (.slice a n c)) 47 118 true).run prog w=.ok (.tuple #[.slice a n c,.bool true]) w:=λw=>by kernel_rfl
theorem qe0(a:Option Addr)(n c:Nat):∀w:World,(Instr.typeAssert (.iface 120 (.slice a n c)) 47 158 true).run prog w=.ok (.tuple #[.bool false,.bool false]) w:=λw=>by kernel_rfl
theorem qdz(a:Option Addr)(n c:Nat):∀w:World,(Instr.typeAssert (.iface 120 (.slice a n c)) 47 160 true).run prog w=.ok (.tuple #[.int .i64 0,.bool false]) w:=λw=>by kernel_rfl
theorem qfd(a:Option Addr)(n c:Nat):∀w:World,(Instr.typeAssert (.iface 120 (.slice a n c)) 47 162 true).run prog w=.ok (.tuple #[.string ByteArray.empty,.bool false]) w:=λw=>by kernel_rfl
theorem qha(a:Option Addr)(n c:Nat):∀w:World,(Instr.typeAssert (.iface 120 (.slice a n c)) 47 118 true).run prog w=.ok (.tuple #[.slice none 0 0,.bool false]) w:=λw=>by kernel_rfl
theorem qfu(a:Option Addr)(n c:Nat):∀w:World,(Instr.typeAssert (.iface 120 (.slice a n c)) 47 120 true).run prog w=.ok (.tuple #[.slice a n c,.bool true]) w:=λw=>by kernel_rfl
theorem qfo(a:Option Addr)(n c:Nat):∀w:World,(Instr.typeAssert (.iface 122 (.slice a n c)) 47 158 true).run prog w=.ok (.tuple #[.bool false,.bool false]) w:=λw=>by kernel_rfl
theorem qev(a:Option Addr)(n c:Nat):∀w:World,(Instr.typeAssert (.iface 122 (.slice a n c)) 47 160 true).run prog w=.ok (.tuple #[.int .i64 0,.bool false]) w:=λw=>by kernel_rfl
theorem qhn(a:Option Addr)(n c:Nat):∀w:World,(Instr.typeAssert (.iface 122 (.slice a n c)) 47 162 true).run prog w=.ok (.tuple #[.string ByteArray.empty,.bool false]) w:=λw=>by kernel_rfl
theorem qhV(a:Option Addr)(n c:Nat):∀w:World,(Instr.typeAssert (.iface 122 (.slice a n c)) 47 118 true).run prog w=.ok (.tuple #[.slice none 0 0,.bool false]) w:=λw=>by kernel_rfl
theorem qho(a:Option Addr)(n c:Nat):∀w:World,(Instr.typeAssert (.iface 122 (.slice a n c)) 47 120 true).run prog w=.ok (.tuple #[.slice none 0 0,.bool false]) w:=λw=>by kernel_rfl
theorem qjv(a:Option Addr)(n c:Nat):∀w:World,(Instr.typeAssert (.iface 122 (.slice a n c)) 47 122 true).run prog w=.ok (.tuple #[.slice a n c,.bool true]) w:=λw=>by kernel_rfl
theorem qm7(W:World)(b:Nat)(v:Value)(bs:List UInt8)(A:bs.length<=999999999)(h:Own W b v bs):Calls prog 52 #[v,.iface 196 (.agg #[])] W λe g=>∃d,e=.returned d/\Own g b d (bs++[192])/\Below b W g:=by
 obtain⟨w,q,r,s,t⟩:=kaF Tryz.infoU8;obtain⟨j,i,a,n,c,rfl⟩:=h;have x:Hid (Own W b (.slice a n c) bs):=⟨j,i,a,n,c,rfl⟩
 have f:=qab j;have C:=qcC;have D:=qcr;have E:=qde;have F:=qdX;have G:=qdf;have H:=qd3;go_enter func52,ntmps52
 go_wp2_with(first
  |(at_builtin;refine kao _ rfl _ _ 27 rfl b 5 w (.int .u8 0) 1 1 underlying27 q r s t rfl (by decide) _ _ _ rfl (f.out.alloc _) ⟨W.heap.size,0,none⟩ 1 1 [.int .u8 192] rfl rfl (qag _ _ _) (λu l=>by simp at l;subst l;rfl) (by unfold maxLen;omega) (by omega) (by simp;omega) ?_;intro d m k p B;have o:Hid (Own m b d (bs++[192])/\Below b W m):=qa0 i f.out rfl k p;obtain⟨z,y,rfl⟩:=ownsRow_succ k))
 go_ret;exact⟨_,rfl,o.out⟩
theorem qhF(W:World)(b:Nat)(v:Value)(bs:List UInt8)(A:bs.length<=999999999)(h:Own W b v bs):Calls prog 52 #[v,.iface 158 (.bool true)] W λe g=>∃d,e=.returned d/\Own g b d (bs++[195])/\Below b W g:=by
 obtain⟨w,q,r,s,t⟩:=kaF Tryz.infoU8;obtain⟨j,i,a,n,c,rfl⟩:=h;have x:Hid (Own W b (.slice a n c) bs):=⟨j,i,a,n,c,rfl⟩
 have f:=qab j;have C:=qb9 true;go_enter func52,ntmps52
 go_wp2_with(first
  |(at_builtin;refine kao _ rfl _ _ 27 rfl b 5 w (.int .u8 0) 1 1 underlying27 q r s t rfl (by decide) _ _ _ rfl (f.out.alloc _) ⟨W.heap.size,0,none⟩ 1 1 [.int .u8 195] rfl rfl (qag _ _ _) (λu l=>by simp at l;subst l;rfl) (by unfold maxLen;omega) (by omega) (by simp;omega) ?_;intro d m k p B;have o:Hid (Own m b d (bs++[195])/\Below b W m):=qa0 i f.out rfl k p;obtain⟨z,y,rfl⟩:=ownsRow_succ k))
 go_ret;exact⟨_,rfl,o.out⟩
theorem qhz(W:World)(b:Nat)(v:Value)(bs:List UInt8)(A:bs.length<=999999999)(h:Own W b v bs):Calls prog 52 #[v,.iface 158 (.bool false)] W λe g=>∃d,e=.returned d/\Own g b d (bs++[194])/\Below b W g:=by
 obtain⟨w,q,r,s,t⟩:=kaF Tryz.infoU8;obtain⟨j,i,a,n,c,rfl⟩:=h;have x:Hid (Own W b (.slice a n c) bs):=⟨j,i,a,n,c,rfl⟩
 have f:=qab j;have C:=qb9 false;go_enter func52,ntmps52
 go_wp2_with(first
  |(at_builtin;refine kao _ rfl _ _ 27 rfl b 5 w (.int .u8 0) 1 1 underlying27 q r s t rfl (by decide) _ _ _ rfl (f.out.alloc _) ⟨W.heap.size,0,none⟩ 1 1 [.int .u8 194] rfl rfl (qag _ _ _) (λu l=>by simp at l;subst l;rfl) (by unfold maxLen;omega) (by omega) (by simp;omega) ?_;intro d m k p B;have o:Hid (Own m b d (bs++[194])/\Below b W m):=qa0 i f.out rfl k p;obtain⟨z,y,rfl⟩:=ownsRow_succ k))
 go_ret;exact⟨_,rfl,o.out⟩
theorem qtL(W:World)(b:Nat)(v:Value)(bs:List UInt8)(l:List UInt8)(q:bs.length<=999999999)(r:l.length<=999999999)(h:Own W b v bs):Calls prog 52 #[v,.iface 162 (.string ⟨l.toArray⟩)] W λe d=>∃g,e=.returned g/\Own d b g (bs++(qa1 l.length++l))/\Below b W d:=by
 obtain⟨A,w,x,y,z⟩:=kaF Tryz.infoU8;obtain⟨f,p,a,n,c,rfl⟩:=h;have i:Hid (Own W b (.slice a n c) bs):=⟨f,p,a,n,c,rfl⟩
 have s:=qab f;have C:=qeq ⟨l.toArray⟩;have D:=qdq ⟨l.toArray⟩;have E:=qfz ⟨l.toArray⟩;go_enter func52,ntmps52
 go_wp2_with(first
  |(go_at_call 74;refine(qkD _ b _ bs l q r i.out).mono ?_;rintro e G ⟨F,rfl,j,o⟩;obtain⟨k,m,t,B,u,rfl⟩:=j))
 go_ret;exact⟨_,rfl,⟨k,m,_,_,_,rfl⟩,o⟩
theorem qlY(W:World)(b:Nat)(v:Value)(bs:List UInt8)(p:bs.length<=999999999)(h:Own W b v bs):Calls prog 51 #[v,.iface 196 (.agg #[])] W λe d=>∃g,e=.returned g/\Own d b g (bs++qaj 7 22)/\Below b W d:=by
 obtain⟨y,t,u,w,x⟩:=kaF Tryz.infoU8;obtain⟨f,o,a,n,c,rfl⟩:=h;have i:Hid (Own W b (.slice a n c) bs):=⟨f,o,a,n,c,rfl⟩
 have q:=qab f;have A:=qcC;have B:=qcr;have C:=qde;have D:=qdX;have E:=qdf;have F:=qd3;go_enter func51,ntmps51
 go_wp2_with(first
  |(go_at_call 70;refine(qby _ b _ bs 7 22 (by omega) (by omega) p i.out).mono ?_;rintro e H ⟨G,rfl,j,m⟩;obtain⟨k,l,r,z,s,rfl⟩:=j))
 go_ret;exact⟨_,rfl,⟨k,l,_,_,_,rfl⟩,m⟩
theorem qh9(W:World)(b:Nat)(v:Value)(bs:List UInt8)(p:bs.length<=999999999)(h:Own W b v bs):Calls prog 51 #[v,.iface 158 (.bool true)] W λe d=>∃g,e=.returned g/\Own d b g (bs++qaj 7 21)/\Below b W d:=by
 obtain⟨y,t,u,w,x⟩:=kaF Tryz.infoU8;obtain⟨f,o,a,n,c,rfl⟩:=h;have i:Hid (Own W b (.slice a n c) bs):=⟨f,o,a,n,c,rfl⟩
 have q:=qab f;have A:=qb9 true;go_enter func51,ntmps51
 go_wp2_with(first
  |(go_at_call 70;refine(qby _ b _ bs 7 21 (by omega) (by omega) p i.out).mono ?_;rintro e C ⟨B,rfl,j,m⟩;obtain⟨k,l,r,z,s,rfl⟩:=j))
 go_ret;exact⟨_,rfl,⟨k,l,_,_,_,rfl⟩,m⟩
theorem qhq(W:World)(b:Nat)(v:Value)(bs:List UInt8)(p:bs.length<=999999999)(h:Own W b v bs):Calls prog 51 #[v,.iface 158 (.bool false)] W λe d=>∃g,e=.returned g/\Own d b g (bs++qaj 7 20)/\Below b W d:=by
 obtain⟨y,t,u,w,x⟩:=kaF Tryz.infoU8;obtain⟨f,o,a,n,c,rfl⟩:=h;have i:Hid (Own W b (.slice a n c) bs):=⟨f,o,a,n,c,rfl⟩
 have q:=qab f;have A:=qb9 false;go_enter func51,ntmps51
 go_wp2_with(first
  |(go_at_call 70;refine(qby _ b _ bs 7 20 (by omega) (by omega) p i.out).mono ?_;rintro e C ⟨B,rfl,j,m⟩;obtain⟨k,l,r,z,s,rfl⟩:=j))
 go_ret;exact⟨_,rfl,⟨k,l,_,_,_,rfl⟩,m⟩
theorem qsE(W:World)(b:Nat)(v:Value)(bs:List UInt8)(l:List UInt8)(q:bs.length<=999999999)(r:l.length<=999999999)(h:Own W b v bs):Calls prog 51 #[v,.iface 162 (.string ⟨l.toArray⟩)] W λe d=>∃g,e=.returned g/\Own d b g (bs++(qaj 3 l.length++l))/\Below b W d:=by
 obtain⟨A,w,x,y,z⟩:=kaF Tryz.infoU8;obtain⟨f,p,a,n,c,rfl⟩:=h;have i:Hid (Own W b (.slice a n c) bs):=⟨f,p,a,n,c,rfl⟩
 have s:=qab f;have C:=qeq ⟨l.toArray⟩;have D:=qdq ⟨l.toArray⟩;have E:=qfz ⟨l.toArray⟩;go_enter func51,ntmps51
 go_wp2_with(first
  |(go_at_call 71;refine(qkI _ b _ bs l q r i.out).mono ?_;rintro e G ⟨F,rfl,j,o⟩;obtain⟨k,m,t,B,u,rfl⟩:=j))
 go_ret;exact⟨_,rfl,⟨k,m,_,_,_,rfl⟩,o⟩

theorem qdj(w:World)(t a b e:TypeId)(c:P.underlying t=some (.slice e))(d:P.underlying a=some (.slice e))(s:Value)(x:Value):(Builtin.append_ #[t,a] b #[s,x]).run P w=(Builtin.append_ #[t,t] b #[s,x]).run P w:=by
 cases s<;>simp[Builtin.append_,kc3 c,kc3 d]
theorem qc6(w:World){rest:List Oper}(I:o.guard=none)(s x:Operand)(t p:TypeId)(M:o.op=.call {callee:=.builtin .append,args:=#[s,x],argTypes:=#[t,p]})(f:Nat)(e:TypeId)(i:TypeInfo)(z:Value)(size l:Nat)(y:P.underlying t=some (.slice e))(T:P.underlying p=some (.slice e))(hi:P.info? e=some i)(V:i.zero=some z)(R:i.size=size)(G:i.bytes=l)(W:z.cells.size=size)(S:0<size)(v:Value)(n:Nat)(q:List Value)(O:a.eval s=v)(N:w.ownsRow f e size v n q)(k:Addr)(m c:Nat)(b:List Value)(U:a.eval x=.slice (some k) m c)(J:b.length=m*size)(L:∀j u,b[j]?=some u->w.cell? (k.add j)=some u)(A:∀u∈b,u.oneCell'=true)(D:n+m<=maxLen)(H:(n+m)*l<=140737488355328)(F:f<=w.heap.size)(h:∀g d,d.ownsRow f e size g (n+m) (q++b)->w.grownBy d v.ownBlock->wpList P ops Q rest (a.put o.dst g) d):wpList P ops Q (o::rest) a w:=by
 refine kcM I λK E=>?_;obtain⟨g,d,r,B,C,_⟩:=kcK (P:=P) w f t o.type e i z size l y hi V R G W S v n q N k m c b J L A D H F;rw[<-qdj w t p o.type e y T]at r;unfold Oper.wp execOp;simp only[M,resolve,invoke,builtin,kbb,kby,kaJ,kco,kaH,kb8,O,U,r];exact E _ _ (h g d B C)
theorem qcl{w:World}{rest:List Oper}(k:o.guard=none)(s x:Operand)(t b:TypeId)(l:o.op=.call {callee:=.builtin .append,args:=#[s,x],argTypes:=#[t,b]})(c:Nat)(e:TypeId)(i:TypeInfo)(size:Nat)(f:P.underlying t=some (.slice e))(q:P.underlying b=some (.slice e))(hi:P.info? e=some i)(v:Value)(n:Nat)(g:List Value)(p:a.eval s=v)(m:w.ownsRow c e size v n g)(r:a.eval x=.slice none 0 0)(h:wpList P ops Q rest (a.put o.dst v) w):wpList P ops Q (o::rest) a w:=by
 refine kcM k λK j=>?_;have d:=kd3 (P:=P) (w:=w) c t o.type e i size f hi v n g m;rw[<-qdj w t b o.type e f q]at d;unfold Oper.wp execOp;simp only[l,resolve,invoke,builtin,kbb,kby,kaJ,kco,kaH,kb8,p,r,d];exact j _ _ h
theorem qbE.cell{t:TypeId}{size n:Nat}{g cap:Nat}{xs:List Value}(h:qbE V t size F (.slice (some ⟨g,0,none⟩) n cap) n xs):∀j u,xs[j]?=some u->V.cell? ((⟨g,0,none⟩:Addr).add j)=some u:=by
 obtain⟨p,b⟩:=h;rcases b with⟨e,_⟩|⟨k,f,i,e,hF,d,l,m,o,c⟩
 ·simp at e
 injection e with e1 e2 e3;injection e1 with e1;injection e1 with e1;subst e1;intro j u a;have e:(⟨g,0,none⟩:Addr).add j=⟨g,j,none⟩:=by by_cases h:j=0<;>simp[Addr.add,h]
 rw[e,kbg _ _ _ _ _ _ d];rw[<-c,kcu]at a;split at a
 ·simpa using a
 simp at a
theorem qf4{W:World}{base:Nat}{v v':Value}{bs l:List UInt8}(h:Own W base v bs)(c:W'.ownsRow base 5 1 v' (bs.length+l.length) (bs.map qax++l.map qax))(d:W.grownBy W' v.ownBlock):Own W' base v' (bs++l)/\Below base W W':=by
 obtain⟨f,b,_⟩:=h;have a:=qa4 (kam base W) f d b;refine⟨⟨by rw[kaa,kaW];exact c,kaj b a.size,?_⟩,a⟩;rcases c.2 with⟨e,_⟩|⟨g,i,j,e,_⟩
 ·exact⟨none,0,0,e⟩
 exact⟨_,_,_,e⟩
theorem qpO(x k:Nat):(beF x k).length=k:=by induction k with|zero=>rfl|succ k a=>rw[beF,kah,a]
theorem qnQ(s x:Nat):(qaj s x).length<=9:=by
 unfold qaj
 repeat' split
 all_goals simp[qpO]
theorem qoX(x:Nat):(qbr x).length<=9:=by
 unfold qbr
 repeat' split
 all_goals simp[qpO]
theorem qpi(W:World)(d:Nat)(v u:Value)(F:Nat->Prop)(hF:∀k,F k->k<d)(bs l:List UInt8)(M:bs.length<=999999999)(ad:l.length<=999999999)(r:qbE W 5 1 F u l.length (l.map qax))(h:Own W d v bs):Calls prog 51 #[v,.iface 118 u] W λe j=>∃i,e=.returned i/\Own j d i (bs++(qaj 2 l.length++l))/\Below d W j:=by
 obtain⟨E,C,Q,R,S⟩:=kaF Tryz.infoU8;obtain⟨O,J,a,n,c,rfl⟩:=h;have H:Hid (Own W d (.slice a n c) bs):=⟨O,J,a,n,c,rfl⟩
 have w:Calls prog 70 #[.slice a n c,.int .u8 2,.int .u64 l.length] W λe j=>∃i,e=.returned i/\Own j d i (bs++qaj 2 l.length)/\Below d W j:=qby W d (.slice a n c) bs 2 l.length (by decide) (by omega) M H.out;have K:(qaj 2 l.length).length<=9:=qnQ _ _;rcases r.2 with⟨rfl,D⟩|⟨g,o,Z,rfl,aa,ab,ac⟩
 ·have N:=ka7 D;rw[D]at w K;rw[N];have T:=qbX none 0 0;have U:=qbG none 0 0;have V:=qcs none 0 0;have X:=qc2 none 0 0;go_enter func51,ntmps51
  go_wp2_with(first
   |(go_at_call 70;refine w.mono ?_;rintro e B ⟨Y,rfl,x,y⟩;obtain⟨A,t,m,p,c2,rfl⟩:=x;have f:Hid (Own B d (.slice m p c2) (bs++qaj 2 0)):=⟨A,t,_,_,_,rfl⟩;have q:=qab y)
   |(at_builtin;refine qcl rfl _ _ 27 118 rfl d 5 E 1 underlying27 underlying118 C (.slice m p c2) _ _ rfl f.out.1 rfl ?_))
  go_ret;rw[kbj];exact⟨_,rfl,f.out,q.out⟩
 have I:=qab r;have T:=qbX (some ⟨g,0,none⟩) l.length o;have U:=qbG (some ⟨g,0,none⟩) l.length o;have V:=qcs (some ⟨g,0,none⟩) l.length o;have X:=qc2 (some ⟨g,0,none⟩) l.length o;go_enter func51,ntmps51
 go_wp2_with(first
  |(go_at_call 70;refine w.mono ?_;rintro e B ⟨Y,rfl,x,y⟩;obtain⟨A,t,m,p,c2,rfl⟩:=x;have f:Hid (Own B d (.slice m p c2) (bs++qaj 2 l.length)):=⟨A,t,_,_,_,rfl⟩;have q:=qab y)
  |(at_builtin;refine qc6 _ rfl _ _ 27 118 rfl d 5 E (.int .u8 0) 1 1 underlying27 underlying118 C Q R S rfl (by decide) (.slice m p c2) _ _ rfl f.out.1 ⟨g,0,none⟩ l.length o (l.map qax) rfl (by simp) (I.out.same (G:=F) (λk z=>z) (λk z=>q.out.block k (hF k z))).cell (λu r=>by obtain⟨b,_,rfl⟩:=List.mem_map.mp r;rfl) (by rw[kaa];unfold maxLen;omega) (by rw[kaa];omega) f.out.2.1 ?_;intro i w5 P L;have s:=qab (qf4 f.out P L)))
 go_ret;rw[kap]at s;exact⟨_,rfl,s.out.1,q.out.trans s.out.2⟩
theorem qqj(W:World)(d:Nat)(v u:Value)(F:Nat->Prop)(hF:∀k,F k->k<d)(bs l:List UInt8)(M:bs.length<=999999999)(ad:l.length<=999999999)(p:qbE W 5 1 F u l.length (l.map qax))(h:Own W d v bs):Calls prog 52 #[v,.iface 118 u] W λe B=>∃z,e=.returned z/\Own B d z (bs++(qbr l.length++l))/\Below d W B:=by
 obtain⟨E,C,Q,R,S⟩:=kaF Tryz.infoU8;obtain⟨O,J,a,n,c,rfl⟩:=h;have H:Hid (Own W d (.slice a n c) bs):=⟨O,J,a,n,c,rfl⟩
 have s:=qow W d (.slice a n c) bs l.length (by omega) M H.out;have K:(qbr l.length).length<=9:=qoX _;rcases p.2 with⟨rfl,D⟩|⟨g,j,Z,rfl,aa,ab,ac⟩
 ·have N:=ka7 D;rw[D]at s K;rw[N];have T:=qbX none 0 0;have U:=qbG none 0 0;have V:=qcs none 0 0;have X:=qc2 none 0 0;go_enter func52,ntmps52
  go_wp2_with(first
   |(go_at_call 75;refine s.mono ?_;rintro e A ⟨Y,rfl,t,w⟩;obtain⟨y,r,i,m,c2,rfl⟩:=t;have f:Hid (Own A d (.slice i m c2) (bs++qbr 0)):=⟨y,r,_,_,_,rfl⟩;have o:=qab w)
   |(at_builtin;refine qcl rfl _ _ 27 118 rfl d 5 E 1 underlying27 underlying118 C (.slice i m c2) _ _ rfl f.out.1 rfl ?_))
  go_ret;rw[kbj];exact⟨_,rfl,f.out,o.out⟩
 have I:=qab p;have T:=qbX (some ⟨g,0,none⟩) l.length j;have U:=qbG (some ⟨g,0,none⟩) l.length j;have V:=qcs (some ⟨g,0,none⟩) l.length j;have X:=qc2 (some ⟨g,0,none⟩) l.length j;go_enter func52,ntmps52
 go_wp2_with(first
  |(go_at_call 75;refine s.mono ?_;rintro e A ⟨Y,rfl,t,w⟩;obtain⟨y,r,i,m,c2,rfl⟩:=t;have f:Hid (Own A d (.slice i m c2) (bs++qbr l.length)):=⟨y,r,_,_,_,rfl⟩;have o:=qab w)
  |(at_builtin;refine qc6 _ rfl _ _ 27 118 rfl d 5 E (.int .u8 0) 1 1 underlying27 underlying118 C Q R S rfl (by decide) (.slice i m c2) _ _ rfl f.out.1 ⟨g,0,none⟩ l.length j (l.map qax) rfl (by simp) (I.out.same (G:=F) (λk x=>x) (λk x=>o.out.block k (hF k x))).cell (λu p=>by obtain⟨b,_,rfl⟩:=List.mem_map.mp p;rfl) (by rw[kaa];unfold maxLen;omega) (by rw[kaa];omega) f.out.2.1 ?_;intro z w5 P L;have q:=qab (qf4 f.out P L)))
 go_ret;rw[kap]at q;exact⟨_,rfl,q.out.1,o.out.trans q.out.2⟩

def qcf(W:World)(base:Nat)(x:Value)(ys:List UInt8):Prop:=∀(V:World) (v:Value) (bs:List UInt8),Below base W V->Own V base v bs->bs.length+ys.length<=999999999->Calls prog 51 #[v,x] V λe W'=>∃v',e=.returned v'/\Own W' base v' (bs++ys)/\Below base V W'
theorem qso(T:DataW Unit->List UInt8)(W:World)(f:Nat)(v u:Value)(F:Nat->Prop)(hF:∀k,F k->k<f)(bs:List UInt8)(b:List (DataW Unit))(m:List Value)(hl:bs.length+((qaj 4 b.length)++b.flatMap T).length<=999999999)(hn:b.length<=999999999)(P:qbE W 47 1 F u b.length m)(af:∀(i:Nat) (x:Value) (d:DataW Unit),m[i]?=some x->b[i]?=some d->qcf W f x (T d))(ae:∀(i:Nat) (x:Value),m[i]?=some x->∃aj y,x=.iface aj y)(h:Own W f v bs):Calls prog 51 #[v,.iface 120 u] W λe o=>∃p,e=.returned p/\Own o f p (bs++(qaj 4 b.length++b.flatMap T))/\Below f W o:=by
 have ah:bs.length<=999999999:=by omega
 obtain⟨ho,hb,a,n,c,rfl⟩:=h;have aa:Hid (Own W f (.slice a n c) bs):=⟨ho,hb,a,n,c,rfl⟩
 have cH:Calls prog 70 #[.slice a n c,.int .u8 4,.int .u64 b.length] W λe o=>∃p,e=.returned p/\Own o f p (bs++qaj 4 b.length)/\Below f W o:=qby W f (.slice a n c) bs 4 b.length (by decide) (by omega) ah aa.out;obtain⟨q,l,rfl⟩:∃q l,u=.slice q b.length l:=by
  rcases P.2 with⟨e,M⟩|⟨g,l,ab,e,_⟩
  ·exact⟨none,0,by rw[e,M]⟩
  exact⟨_,_,e⟩
 have HU:=qab P;have Y:=qab af;have Z:=qab hl;have X:=qab ae;have an:=qe0 q b.length l;have ao:=qdz q b.length l;have ap:=qfd q b.length l;have aq:=qha q b.length l;have ar:=qfu q b.length l;go_enter func51,ntmps51
 go_wp2_with(first
  |(go_at_call 70;refine cH.mono ?_;rintro e w2 ⟨v2,rfl,w,ac⟩;obtain⟨o2,b2,J,Q,c2,rfl⟩:=w;have t:Hid (Own w2 f (.slice J Q c2) (bs++qaj 4 b.length)):=⟨o2,b2,_,_,_,rfl⟩;have U:=qab ac))
 go_loopg[0,64,11] b.length (λg y ak x wr=>∃(k:Nat) (C:Option Addr) (H D:Nat),y=.slice C H D/\ak=.int .i64 k/\Hid (k+g=b.length)/\Hid (Own wr f (.slice C H D) ((bs++qaj 4 b.length)++(b.take k).flatMap T))/\Hid (Below f W wr))
 case atStart=>exact⟨0,J,Q,c2,rfl,rfl,by show _=_;omega,by simpa using t,U⟩
 case round =>
  obtain⟨k,C,H,D,rfl,rfl,A,I,r⟩:=hrel
  cases gk with
  |zero =>
   have ai:¬(k:Int)<b.length:=by have:=A.out;omega
   have s:Hid (b.take k=b):=by show _=_;exact kaU (by have:=A.out;omega)
   go_wp2;go_ret;have N:=I.out;rw[s.out,kap]at N;exact⟨_,rfl,N,r.out⟩
  |succ g =>
   have ag:k<b.length:=by have:=A.out;omega
   have ai:(k:Int)<b.length:=by omega
   have B:=HU.out.same (V':=wr) (G:=F) (λ_ h=>h) (λj hj=>r.out.block j (hF j hj));obtain⟨q0,rfl⟩:∃q0,q=some ⟨q0,0,none⟩:=by
    rcases B.2 with⟨_,e⟩|⟨g,al,ab,e,_⟩
    ·omega
    injection e with e1 M e3;exact⟨g,e1⟩
   have am:m.length=b.length:=by have:=B.1;omega
   obtain⟨x,E⟩:∃x,m[k]?=some x:=⟨m[k],kab (by omega)⟩
   obtain⟨d,O⟩:∃d,b[k]?=some d:=⟨b[k],kab ag⟩
   obtain⟨tx,yx,rfl⟩:=X.out k x E;have hc:wr.cell? ⟨q0,k,none⟩=some (.iface tx yx):=by
    have:=B.cell k _ E;have e:(⟨q0,0,none⟩:Addr).add k=⟨q0,k,none⟩:=by by_cases h:k=0<;>simp[Addr.add,h]
    rwa[e]at this
   have s:Hid ((b.take (k+1)).flatMap T=(b.take k).flatMap T++T d):=by
    show _=_;rw[kb7,O];simp
   have S:Hid (((bs++qaj 4 b.length)++(b.take k).flatMap T).length+(T d).length<=999999999):=by
    show _<=_;have h1:=Z.out;have w:(b.flatMap T).length=((b.take (k+1)).flatMap T).length+((b.drop (k+1)).flatMap T).length:=by
     rw[<-kaa,<-kbP,kbu]
    rw[s.out]at w;simp only[kaa]at h1 w ⊢;omega
   have cI:=Y.out k _ d E O wr _ _ r.out I.out S.out
   go_wp2_with(first
    |(go_at_call 51;refine cI.mono ?_;rintro e w4 ⟨v4,rfl,h4,ad⟩;obtain⟨o4,b4,K,R,L,rfl⟩:=h4;have z:Hid (Own w4 f (.slice K R L) (((bs++qaj 4 b.length)++(b.take k).flatMap T)++T d)):=⟨o4,b4,_,_,_,rfl⟩;have V:=qab (r.out.trans ad)))
   go_roundg g
   case measure=>omega
   case rel=>exact⟨k+1,K,R,L,rfl,by go_num,by show _=_;have:=A.out;omega,by show Own _ _ _ _;rw[s.out,<-kap];exact z.out,V⟩
def qcd(W:World)(base:Nat)(x:Value)(ys:List UInt8):Prop:=∀(V:World) (v:Value) (bs:List UInt8),Below base W V->Own V base v bs->bs.length+ys.length<=999999999->Calls prog 52 #[v,x] V λe W'=>∃v',e=.returned v'/\Own W' base v' (bs++ys)/\Below base V W'
theorem qt5(T:DataW Unit->List UInt8)(W:World)(f:Nat)(v u:Value)(F:Nat->Prop)(hF:∀k,F k->k<f)(bs:List UInt8)(b:List (DataW Unit))(m:List Value)(hl:bs.length+((qbq b.length)++b.flatMap T).length<=999999999)(hn:b.length<=999999999)(O:qbE W 47 1 F u b.length m)(af:∀(i:Nat) (x:Value) (d:DataW Unit),m[i]?=some x->b[i]?=some d->qcd W f x (T d))(ae:∀(i:Nat) (x:Value),m[i]?=some x->∃aj y,x=.iface aj y)(h:Own W f v bs):Calls prog 52 #[v,.iface 120 u] W λe H=>∃R,e=.returned R/\Own H f R (bs++(qbq b.length++b.flatMap T))/\Below f W H:=by
 have ah:bs.length<=999999999:=by omega
 obtain⟨ho,hb,a,n,c,rfl⟩:=h;have aa:Hid (Own W f (.slice a n c) bs):=⟨ho,hb,a,n,c,rfl⟩
 have cH:=qnR W f (.slice a n c) bs b.length (by omega) ah aa.out;obtain⟨q,l,rfl⟩:∃q l,u=.slice q b.length l:=by
  rcases O.2 with⟨e,L⟩|⟨g,l,ab,e,_⟩
  ·exact⟨none,0,by rw[e,L]⟩
  exact⟨_,_,e⟩
 have HU:=qab O;have Y:=qab af;have Z:=qab hl;have X:=qab ae;have an:=qe0 q b.length l;have ao:=qdz q b.length l;have ap:=qfd q b.length l;have aq:=qha q b.length l;have ar:=qfu q b.length l;go_enter func52,ntmps52
 go_wp2_with(first
  |(go_at_call 76;refine cH.mono ?_;rintro e w2 ⟨v2,rfl,r,ac⟩;obtain⟨o2,b2,I,P,c2,rfl⟩:=r;have t:Hid (Own w2 f (.slice I P c2) (bs++qbq b.length)):=⟨o2,b2,_,_,_,rfl⟩;have U:=qab ac))
 go_loopg[0,64,11] b.length (λg y ak x wr=>∃(k:Nat) (A:Option Addr) (D B:Nat),y=.slice A D B/\ak=.int .i64 k/\Hid (k+g=b.length)/\Hid (Own wr f (.slice A D B) ((bs++qbq b.length)++(b.take k).flatMap T))/\Hid (Below f W wr))
 case atStart=>exact⟨0,I,P,c2,rfl,rfl,by show _=_;omega,by simpa using t,U⟩
 case round =>
  obtain⟨k,A,D,B,rfl,rfl,s,E,o⟩:=hrel
  cases gk with
  |zero =>
   have ai:¬(k:Int)<b.length:=by have:=s.out;omega
   have p:Hid (b.take k=b):=by show _=_;exact kaU (by have:=s.out;omega)
   go_wp2;go_ret;have M:=E.out;rw[p.out,kap]at M;exact⟨_,rfl,M,o.out⟩
  |succ g =>
   have ag:k<b.length:=by have:=s.out;omega
   have ai:(k:Int)<b.length:=by omega
   have w:=HU.out.same (V':=wr) (G:=F) (λ_ h=>h) (λj hj=>o.out.block j (hF j hj));obtain⟨q0,rfl⟩:∃q0,q=some ⟨q0,0,none⟩:=by
    rcases w.2 with⟨_,e⟩|⟨g,al,ab,e,_⟩
    ·omega
    injection e with e1 L e3;exact⟨g,e1⟩
   have am:m.length=b.length:=by have:=w.1;omega
   obtain⟨x,C⟩:∃x,m[k]?=some x:=⟨m[k],kab (by omega)⟩
   obtain⟨d,N⟩:∃d,b[k]?=some d:=⟨b[k],kab ag⟩
   obtain⟨tx,yx,rfl⟩:=X.out k x C;have hc:wr.cell? ⟨q0,k,none⟩=some (.iface tx yx):=by
    have:=w.cell k _ C;have e:(⟨q0,0,none⟩:Addr).add k=⟨q0,k,none⟩:=by by_cases h:k=0<;>simp[Addr.add,h]
    rwa[e]at this
   have p:Hid ((b.take (k+1)).flatMap T=(b.take k).flatMap T++T d):=by
    show _=_;rw[kb7,N];simp
   have S:Hid (((bs++qbq b.length)++(b.take k).flatMap T).length+(T d).length<=999999999):=by
    show _<=_;have h1:=Z.out;have r:(b.flatMap T).length=((b.take (k+1)).flatMap T).length+((b.drop (k+1)).flatMap T).length:=by
     rw[<-kaa,<-kbP,kbu]
    rw[p.out]at r;simp only[kaa]at h1 r ⊢;omega
   have cI:=Y.out k _ d C N wr _ _ o.out E.out S.out
   go_wp2_with(first
    |(go_at_call 52;refine cI.mono ?_;rintro e w4 ⟨v4,rfl,h4,ad⟩;obtain⟨o4,b4,J,Q,K,rfl⟩:=h4;have z:Hid (Own w4 f (.slice J Q K) (((bs++qbq b.length)++(b.take k).flatMap T)++T d)):=⟨o4,b4,_,_,_,rfl⟩;have V:=qab (o.out.trans ad)))
   go_roundg g
   case measure=>omega
   case rel=>exact⟨k+1,J,Q,K,rfl,by go_num,by show _=_;have:=s.out;omega,by show Own _ _ _ _;rw[p.out,<-kap];exact z.out,V⟩

def qcM:Nat->DataW Unit->Bool
 |0,_=>false
 |k+1,d=>match d with
  |.ptr (.lit (.string _))=>true
  |.agg ds=>ds.any (qcM k)
  |.map es=>es.any λe=>qcM k e.2
  |_=>false
theorem qhO  : ∀w:World,(Instr.typeAssert (.iface 196 (.agg #[])) 47 118 true).run prog w=.ok (.tuple #[.slice none 0 0,.bool false]) w:=λw=>by kernel_rfl
theorem qeP  : ∀w:World,(Instr.typeAssert (.iface 196 (.agg #[])) 47 120 true).run prog w=.ok (.tuple #[.slice none 0 0,.bool false]) w:=λw=>by kernel_rfl
theorem qfH  : ∀w:World,(Instr.typeAssert (.iface 196 (.agg #[])) 47 122 true).run prog w=.ok (.tuple #[.slice none 0 0,.bool false]) w:=λw=>by kernel_rfl
theorem qkS(b:Bool):∀w:World,(Instr.typeAssert (.iface 158 (.bool b)) 47 118 true).run prog w=.ok (.tuple #[.slice none 0 0,.bool false]) w:=λw=>by kernel_rfl
theorem qgL(b:Bool):∀w:World,(Instr.typeAssert (.iface 158 (.bool b)) 47 120 true).run prog w=.ok (.tuple #[.slice none 0 0,.bool false]) w:=λw=>by kernel_rfl
theorem qic(b:Bool):∀w:World,(Instr.typeAssert (.iface 158 (.bool b)) 47 122 true).run prog w=.ok (.tuple #[.slice none 0 0,.bool false]) w:=λw=>by kernel_rfl
theorem qiC(z:Int):∀w:World,(Instr.typeAssert (.iface 160 (.int .i64 z)) 47 118 true).run prog w=.ok (.tuple #[.slice none 0 0,.bool false]) w:=λw=>by kernel_rfl
theorem qfI(z:Int):∀w:World,(Instr.typeAssert (.iface 160 (.int .i64 z)) 47 120 true).run prog w=.ok (.tuple #[.slice none 0 0,.bool false]) w:=λw=>by kernel_rfl
theorem qg7(z:Int):∀w:World,(Instr.typeAssert (.iface 160 (.int .i64 z)) 47 122 true).run prog w=.ok (.tuple #[.slice none 0 0,.bool false]) w:=λw=>by kernel_rfl
theorem qlQ(s:ByteArray):∀w:World,(Instr.typeAssert (.iface 162 (.string s)) 47 118 true).run prog w=.ok (.tuple #[.slice none 0 0,.bool false]) w:=λw=>by kernel_rfl
theorem qhU(s:ByteArray):∀w:World,(Instr.typeAssert (.iface 162 (.string s)) 47 120 true).run prog w=.ok (.tuple #[.slice none 0 0,.bool false]) w:=λw=>by kernel_rfl
theorem qkm(s:ByteArray):∀w:World,(Instr.typeAssert (.iface 162 (.string s)) 47 122 true).run prog w=.ok (.tuple #[.slice none 0 0,.bool false]) w:=λw=>by kernel_rfl
theorem qke(a:Option Addr)(n c:Nat):∀w:World,(Instr.typeAssert (.iface 118 (.slice a n c)) 47 118 true).run prog w=.ok (.tuple #[.slice a n c,.bool true]) w:=λw=>by kernel_rfl
theorem qlU(a:Option Addr)(n c:Nat):∀w:World,(Instr.typeAssert (.iface 120 (.slice a n c)) 47 118 true).run prog w=.ok (.tuple #[.slice none 0 0,.bool false]) w:=λw=>by kernel_rfl
theorem qil(a:Option Addr)(n c:Nat):∀w:World,(Instr.typeAssert (.iface 120 (.slice a n c)) 47 120 true).run prog w=.ok (.tuple #[.slice a n c,.bool true]) w:=λw=>by kernel_rfl
theorem qnO(a:Option Addr)(n c:Nat):∀w:World,(Instr.typeAssert (.iface 122 (.slice a n c)) 47 118 true).run prog w=.ok (.tuple #[.slice none 0 0,.bool false]) w:=λw=>by kernel_rfl
theorem qla(a:Option Addr)(n c:Nat):∀w:World,(Instr.typeAssert (.iface 122 (.slice a n c)) 47 120 true).run prog w=.ok (.tuple #[.slice none 0 0,.bool false]) w:=λw=>by kernel_rfl
theorem qnj(a:Option Addr)(n c:Nat):∀w:World,(Instr.typeAssert (.iface 122 (.slice a n c)) 47 122 true).run prog w=.ok (.tuple #[.slice a n c,.bool true]) w:=λw=>by kernel_rfl
theorem qo9(W:World):Calls prog 33 #[.iface 196 (.agg #[])] W λe a=>e=.returned (.bool false)/\Below W.heap.size W a:=by
 have b:=qhO;have c:=qeP;have d:=qfH;go_enter func33,ntmps33;go_wp2;go_ret;exact⟨rfl,kam _ _⟩
theorem qsG(W:World)(b:Bool):Calls prog 33 #[.iface 158 (.bool b)] W λe a=>e=.returned (.bool false)/\Below W.heap.size W a:=by
 have c:=qkS b;have d:=qgL b;have f:=qic b;go_enter func33,ntmps33;go_wp2;go_ret;exact⟨rfl,kam _ _⟩
theorem qqC(W:World)(z:Int):Calls prog 33 #[.iface 160 (.int .i64 z)] W λe a=>e=.returned (.bool false)/\Below W.heap.size W a:=by
 have b:=qiC z;have c:=qfI z;have d:=qg7 z;go_enter func33,ntmps33;go_wp2;go_ret;exact⟨rfl,kam _ _⟩
theorem qwo(W:World)(s:ByteArray):Calls prog 33 #[.iface 162 (.string s)] W λe a=>e=.returned (.bool false)/\Below W.heap.size W a:=by
 have b:=qlQ s;have c:=qhU s;have d:=qkm s;go_enter func33,ntmps33;go_wp2;go_ret;exact⟨rfl,kam _ _⟩
theorem qnJ(W:World)(a:Option Addr)(n c:Nat):Calls prog 33 #[.iface 118 (.slice a n c)] W λe b=>e=.returned (.bool true)/\Below W.heap.size W b:=by
 have d:=qke a n c;go_enter func33,ntmps33;go_wp2;go_ret;exact⟨rfl,kam _ _⟩
theorem qno{α:Type}(T:α->Bool)(l:List α)(k:Nat)(d:α)(a:l[k]?=some d):(l.take (k+1)).any T=((l.take k).any T||T d):=by
 rw[kb7,a];simp
theorem qr0{α:Type}(T:α->Bool)(l:List α)(k:Nat)(d:α)(a:l[k]?=some d)(h:T d=true):l.any T=true:=kbi.2 ⟨d,kcU a,h⟩
def qxm(W:World)(x:Value)(r:Bool):Prop:=∀V,Below W.heap.size W V->Calls prog 33 #[x] V λe W'=>e=.returned (.bool r)/\Below V.heap.size V W'
theorem qdN{A:World}(a:Below A.heap.size A V)(b:Below V.heap.size V W'):Below A.heap.size A W':=a.trans (b.mono a.size)
theorem qvx(T:DataW Unit->Bool)(W:World)(u:Value)(F:Nat->Prop)(hF:∀k,F k->k<W.heap.size)(a:List (DataW Unit))(b:List Value)(E:qbE W 47 1 F u a.length b)(S:∀(i:Nat) (x:Value) (d:DataW Unit),b[i]?=some x->a[i]?=some d->qxm W x (T d))(R:∀(i:Nat) (x:Value),b[i]?=some x->∃t y,x=.iface t y):Calls prog 33 #[.iface 120 u] W λe N=>e=.returned (.bool (a.any T))/\Below W.heap.size W N:=by
 obtain⟨q,f,rfl,Y⟩:∃q f,u=.slice q a.length f/\a.length<=maxLen:=by
  rcases E.2 with⟨e,w⟩|⟨g,f,O,e,_,_,P,Q,_⟩
  ·exact⟨none,0,by rw[e,w],by rw[w];decide⟩
  exact⟨_,_,e,kaj P Q⟩
 unfold maxLen at Y;have L:=qab E;have I:=qab S;have H:=qab R;obtain⟨r,v⟩:∃r,Hid (a.any T=r):=⟨_,show _=_ from rfl⟩
 rw[v.out];have ac:=qlU q a.length f;have ad:=qil q a.length f;go_enter func33,ntmps33;go_wp2
 go_loopg[19,6] a.length (λg z x wr=>∃(k:Nat),z=.int .i64 k/\Hid (k+g=a.length)/\Hid ((a.take k).any T=false)/\Hid (Below W.heap.size W wr))
 case atStart=>exact⟨0,rfl,by show _=_;omega,by show _=_;simp,kam _ _⟩
 case round =>
  obtain⟨k,rfl,n,D,c⟩:=hrel
  cases gk with
  |zero =>
   have X:¬(k:Int)<a.length:=by have:=n.out;omega
   have K:Hid (r=false):=by
    show _=_;rw[<-v.out];have h:=D.out;rwa[kaU (by have:=n.out;omega)]at h
   go_wp2;go_ret;rw[K.out];exact⟨rfl,c.out⟩
  |succ g =>
   have V:k<a.length:=by have:=n.out;omega
   have X:(k:Int)<a.length:=by omega
   have s:=L.out.same (V':=wr) (G:=F) (λ_ h=>h) (λj U=>c.out.block j (hF j U));obtain⟨q0,rfl⟩:∃q0,q=some ⟨q0,0,none⟩:=by
    rcases s.2 with⟨_,e⟩|⟨g,aa,O,e,_⟩
    ·omega
    injection e with e1 w e3;exact⟨g,e1⟩
   have ab:b.length=a.length:=by have:=s.1;omega
   obtain⟨x,C⟩:∃x,b[k]?=some x:=⟨b[k],kab (by omega)⟩
   obtain⟨d,B⟩:∃d,a[k]?=some d:=⟨a[k],kab V⟩
   obtain⟨Z,yx,rfl⟩:=H.out k x C;have hc:wr.cell? ⟨q0,k,none⟩=some (.iface Z yx):=by
    have:=s.cell k _ C;have e:(⟨q0,0,none⟩:Addr).add k=⟨q0,k,none⟩:=by by_cases h:k=0<;>simp[Addr.add,h]
    rwa[e]at this
   have l:=I.out k _ d C B wr c.out;have J:=qab (qno T a k d B);have M:=qab (qr0 T a k d B);cases m:T d
   ·rw[m]at l;have p:=qab m
    go_wp2_with(first
     |(go_at_call 33;refine l.mono ?_;rintro e w4 ⟨rfl,A⟩;have o:=qab (qdN c.out A)))
    go_roundg g
    case measure=>omega
    case rel=>exact⟨k+1,by go_num,by show _=_;have:=n.out;omega,by show _=_;rw[J.out,D.out,p.out];rfl,o⟩
   rw[m]at l;have p:Hid (r=true):=by show _=_;rw[<-v.out];exact M.out m
   go_wp2_with(first
    |(go_at_call 33;refine l.mono ?_;rintro e w4 ⟨rfl,A⟩;have o:=qab (qdN c.out A)))
   go_ret;rw[p.out];exact⟨rfl,o.out⟩

theorem qy3(T:DataW Unit->Bool)(W:World)(u:Value)(F:Nat->Prop)(hF:∀k,F k->k<W.heap.size)(a:List (Lit×DataW Unit))(E:List Value)(I:qbE W 124 2 F u a.length E)(X:∀(i:Nat) (o:Lit) (d:DataW Unit),a[i]?=some (o,d)->∃l t y,o=.string l/\E[2*i]?=some (.string ⟨l.toArray⟩)/\E[2*i+1]?=some (.iface t y)/\qxm W (.iface t y) (T d)):Calls prog 33 #[.iface 122 u] W λe Q=>e=.returned (.bool (a.any λe=>T e.2))/\Below W.heap.size W Q:=by
 obtain⟨q,b,rfl,hn⟩:∃q b,u=.slice q a.length b/\a.length<=maxLen:=by
  rcases I.2 with⟨e,B⟩|⟨g,b,R,e,_,_,S,U,_⟩
  ·exact⟨none,0,by rw[e,B],by rw[B];decide⟩
  exact⟨_,_,e,kaj S U⟩
 unfold maxLen at hn;have O:=qab I;have L:=qab X;obtain⟨r,w⟩:∃r,Hid ((a.any λe=>T e.2)=r):=⟨_,show _=_ from rfl⟩
 rw[w.out];have af:=qnO q a.length b;have ag:=qla q a.length b;have ah:=qnj q a.length b;go_enter func33,ntmps33;go_wp2
 go_loopg[31,9] a.length (λg ab ai wr=>∃(k:Nat),ab=.int .i64 k/\Hid (k+g=a.length)/\Hid ((a.take k).any (λe=>T e.2)=false)/\Hid (Below W.heap.size W wr))
 case atStart=>exact⟨0,rfl,by show _=_;omega,by show _=_;simp,kam _ _⟩
 case round =>
  obtain⟨k,rfl,n,H,c⟩:=hrel
  cases gk with
  |zero =>
   have x:¬(k:Int)<a.length:=by have:=n.out;omega
   have N:Hid (r=false):=by
    show _=_;rw[<-w.out];have h:=H.out;rwa[kaU (by have:=n.out;omega)]at h
   go_wp2;go_ret;rw[N.out];exact⟨rfl,c.out⟩
  |succ g =>
   have Z:k<a.length:=by have:=n.out;omega
   have x:(k:Int)<a.length:=by omega
   have v:=O.out.same (V':=wr) (G:=F) (λ_ h=>h) (λj Y=>c.out.block j (hF j Y));obtain⟨q0,rfl⟩:∃q0,q=some ⟨q0,0,none⟩:=by
    rcases v.2 with⟨_,e⟩|⟨g,ac,R,e,_⟩
    ·omega
    injection e with e1 B e3;exact⟨g,e1⟩
   obtain⟨⟨o,d⟩,D⟩:∃d,a[k]?=some d:=⟨a[k],kab Z⟩
   obtain⟨l,J,K,rfl,z,aa,V⟩:=L.out k o d D;have ad:wr.cell? ⟨q0,k*2,none⟩=some (.string ⟨l.toArray⟩):=by
    have:=v.cell (2*k) _ z;have e:(⟨q0,0,none⟩:Addr).add (2*k)=⟨q0,k*2,none⟩:=by by_cases h:2*k=0<;>simp only[Addr.add,h,kaL,kb9 k 2,ker,kep]
    rwa[e]at this
   have ae:wr.cell? ⟨q0,k*2+1,none⟩=some (.iface J K):=by
    have:=v.cell (2*k+1) _ aa;have e:(⟨q0,0,none⟩:Addr).add (2*k+1)=⟨q0,k*2+1,none⟩:=by simp[Addr.add,kb9]
    rwa[e]at this
   have A:Hid (Below W.heap.size W (wr.alloc (.cells #[.string ⟨l.toArray⟩,.iface J K] 124))):=c.out.alloc c.out.size _;have f:=V _ A.out;have M:Hid ((a.take (k+1)).any (λe=>T e.2)=((a.take k).any (λe=>T e.2)||T d)):=qno (λe:Lit×DataW Unit=>T e.2) a k _ D;have P:Hid (T d=true->(a.any λe=>T e.2)=true):=qr0 (λe:Lit×DataW Unit=>T e.2) a k _ D;cases m:T d
   ·rw[m]at f;have s:=qab m
    go_wp2_with(first
     |(go_at_call 33;refine f.mono ?_;rintro e w4 ⟨rfl,C⟩;have p:=qab (qdN A.out C)))
    go_roundg g
    case measure=>omega
    case rel=>exact⟨k+1,by go_num,by show _=_;have:=n.out;omega,by show _=_;rw[M.out,H.out,s.out];rfl,p⟩
   rw[m]at f;have s:Hid (r=true):=by show _=_;rw[<-w.out];exact P.out m
   go_wp2_with(first
    |(go_at_call 33;refine f.mono ?_;rintro e w4 ⟨rfl,C⟩;have p:=qab (qdN A.out C)))
   go_ret;rw[s.out];exact⟨rfl,p.out⟩

theorem qah.iface:∀{k:Nat} {v:Value} {d:DataW Unit},qah k V F v d->∃t y,v=.iface t y
 |0,_,_,h=>h.elim
 |k+1,v,d,h=>by
  unfold qah at h;split at h
  ·exact⟨_,_,h⟩
  ·exact⟨_,_,h⟩
  ·exact⟨_,_,h.1⟩
  ·exact⟨_,_,h⟩
  ·obtain⟨u,e,_⟩:=h;exact⟨_,_,e⟩
  ·obtain⟨u,a,e,_⟩:=h;exact⟨_,_,e⟩
  ·obtain⟨u,a,e,_⟩:=h;exact⟨_,_,e⟩
  exact h.elim
theorem qjE:∀(k:Nat) (W:World) (F:Nat->Prop) (v:Value) (d:DataW Unit),(∀j,F j->j<W.heap.size)->qah k W F v d ->
  Calls prog 33 #[v] W λe w=>e=.returned (.bool (qcM k d))/\Below W.heap.size W w
 |0,_,_,_,_,_,h=>h.elim
 |k+1,W,F,v,d,hF,h=>by
  have s:∀x c,qah k W F x c->qxm W x (qcM k c):=λx c n V r =>
   qjE k V F x c (λj o=>kai (hF j o) r.size) (n.same (λ_ h=>h) (λj o=>r.block j (hF j o)))
  unfold qah at h;split at h
  ·subst h;exact qo9 W
  ·subst h;exact qsG W _
  ·obtain⟨rfl,_⟩:=h;exact qqC W _
  ·subst h;exact qwo W _
  ·obtain⟨u,rfl,a⟩:=h;rcases a.2 with⟨rfl,_⟩|⟨g,E,G,rfl,_⟩
   ·exact qnJ W _ _ _
   exact qnJ W _ _ _
  ·obtain⟨u,p,rfl,a,m⟩:=h;refine qvx (qcM k) W u F hF _ p a (λi x d b f=>s x d (m i x d b f)) (λi x n=>?_);have C:=kab (show i<_ from by
    have b:=ltL n;have f:=a.1;rw[kdI]at f;rwa[f]at b)
   exact(m i x _ n C).iface
  ·obtain⟨u,p,rfl,a,m⟩:=h;refine qy3 (qcM k) W u F hF _ p a (λi D d b=>?_);obtain⟨l,x,z,A,B,q⟩:=m i D d b;obtain⟨t,y,rfl⟩:=q.iface;exact⟨l,t,y,z,A,B,s _ d q⟩
  exact h.elim

end
section
open Go.RowKit
theorem ok1(l:List UInt8)(lo hi:Nat):qj6 lo hi l 1=true↔(1<l.length/\lo<=(l.getD 1 0).toNat/\(l.getD 1 0).toNat<=hi):=by
 unfold qj6;rw[kag rfl,ka2,kbQ,kbQ];omega
theorem ok2(l:List UInt8)(lo hi:Int)(j:Nat)(a:j≠1):qj6 lo hi l j=true↔(j<l.length/\128<=(l.getD j 0).toNat/\(l.getD j 0).toNat<=191):=by
 unfold qj6;rw[kac a,ka2,kbQ,kbQ]
theorem qzN(l:List UInt8)(k lo hi:Nat)(i:k=2\/k=3\/k=4)(h:qdW ((l.getD 0 0).toNat:Int)=((lo:Int),(hi:Int),(k:Int))):szL l=(Lib.checkN l.length (l.getD 1 0).toNat (l.getD 2 0).toNat (l.getD 3 0).toNat k lo hi).getD 0:=by
 unfold szL qjO;rw[h];simp only[];rw[kac (show¬((k:Nat):Int)=0 by omega)];have d:=ok1 l lo hi;have e:=ok2 l lo hi 2 (by omega);have g:=ok2 l lo hi 3 (by omega);generalize(l.getD 0 0)=b0 at *;generalize(l.getD 1 0)=b1 at *;generalize(l.getD 2 0)=b2 at *;generalize(l.getD 3 0)=b3 at *;rcases i with rfl|rfl|rfl
 ·cases a:qj6 lo hi l 1
  ·have c:l.length<2\/b1.toNat<lo\/hi<b1.toNat:=by rw[a]at d;simp at d;omega
   simp[qhM,a,Lib.checkN,c]
  have c:¬(l.length<2\/b1.toNat<lo\/hi<b1.toNat):=by have:=d.1 a;omega
  simp[qhM,a,Lib.checkN,c]
 ·cases a:qj6 lo hi l 1
  ·have c:l.length<3\/b1.toNat<lo\/hi<b1.toNat\/b2.toNat<128\/191<b2.toNat:=by rw[a]at d;simp at d;omega
   simp[qhM,a,Lib.checkN,c]
  cases b:qj6 lo hi l 2
  ·have c:l.length<3\/b1.toNat<lo\/hi<b1.toNat\/b2.toNat<128\/191<b2.toNat:=by rw[b]at e;simp at e;omega
   simp[qhM,a,b,Lib.checkN,c]
  have c:¬(l.length<3\/b1.toNat<lo\/hi<b1.toNat\/b2.toNat<128\/191<b2.toNat):=by have:=d.1 a;have:=e.1 b;omega
  simp[qhM,a,b,Lib.checkN,c]
 cases a:qj6 lo hi l 1
 ·have c:l.length<4\/b1.toNat<lo\/hi<b1.toNat\/b2.toNat<128\/191<b2.toNat\/b3.toNat<128\/191<b3.toNat:=by rw[a]at d;simp at d;omega
  simp[qhM,a,Lib.checkN,c]
 cases b:qj6 lo hi l 2
 ·have c:l.length<4\/b1.toNat<lo\/hi<b1.toNat\/b2.toNat<128\/191<b2.toNat\/b3.toNat<128\/191<b3.toNat:=by rw[b]at e;simp at e;omega
  simp[qhM,a,b,Lib.checkN,c]
 cases f:qj6 lo hi l 3
 ·have c:l.length<4\/b1.toNat<lo\/hi<b1.toNat\/b2.toNat<128\/191<b2.toNat\/b3.toNat<128\/191<b3.toNat:=by rw[f]at g;simp at g;omega
  simp[qhM,a,b,f,Lib.checkN,c]
 have c:¬(l.length<4\/b1.toNat<lo\/hi<b1.toNat\/b2.toNat<128\/191<b2.toNat\/b3.toNat<128\/191<b3.toNat):=by have:=d.1 a;have:=e.1 b;have:=g.1 f;omega
 simp[qhM,a,b,f,Lib.checkN,c]
theorem q0e(l:List UInt8)(h:(qdW ((l.getD 0 0).toNat:Int)).2.2=0):szL l=0:=by
 unfold szL qjO;rw[kag h];rfl
theorem qz8(l:List UInt8)(h:(l.getD 0 0).toNat<128):szL l=1:=by
 have e:qdW ((l.getD 0 0).toNat:Int)=(0,0,1):=by unfold qdW;rw[kag (by omega)]
 unfold szL qjO;rw[e];rfl
set_option linter.unusedSimpArgs false in
theorem qqF(l:List UInt8)(u:128<=(l.getD 0 0).toNat):szL l=(Lib.checkN l.length (l.getD 1 0).toNat (l.getD 2 0).toNat (l.getD 3 0).toNat (Lib.firstT (l.getD 0 0).toNat%8) (Lib.accLo (Lib.firstT (l.getD 0 0).toNat/16)) (Lib.accHi (Lib.firstT (l.getD 0 0).toNat/16))).getD 0:=by
 have v:=(l.getD 0 0).toNat_lt
 have h:∀k n m,Lib.firstT (l.getD 0 0).toNat%8=k->Lib.accLo (Lib.firstT (l.getD 0 0).toNat/16)=n->Lib.accHi (Lib.firstT (l.getD 0 0).toNat/16)=m->(k=2\/k=3\/k=4)->qdW ((l.getD 0 0).toNat:Int)=((n:Int),(m:Int),(k:Int)) ->
   szL l=(Lib.checkN l.length (l.getD 1 0).toNat (l.getD 2 0).toNat (l.getD 3 0).toNat (Lib.firstT (l.getD 0 0).toNat%8) (Lib.accLo (Lib.firstT (l.getD 0 0).toNat/16)) (Lib.accHi (Lib.firstT (l.getD 0 0).toNat/16))).getD 0:=λk n m q r s t o=>by
  rw[q,r,s]
  exact qzN l k n m t o
 have p:Lib.firstT (l.getD 0 0).toNat=241->(qdW ((l.getD 0 0).toNat:Int)).2.2=0 ->
   szL l=(Lib.checkN l.length (l.getD 1 0).toNat (l.getD 2 0).toNat (l.getD 3 0).toNat (Lib.firstT (l.getD 0 0).toNat%8) (Lib.accLo (Lib.firstT (l.getD 0 0).toNat/16)) (Lib.accHi (Lib.firstT (l.getD 0 0).toNat/16))).getD 0:=λe o=>by
  rw[e,q0e l o]
  rfl
 generalize hb:(l.getD 0 0).toNat=b0 at *
 by_cases a:b0<194
 ·exact p (by unfold Lib.firstT;rw[kac (by omega),kag a]) (by unfold qdW;repeat(first|rw[kac (by omega)]|rw[kag (by omega)]))
 by_cases b:b0<224
 ·exact h 2 128 191 (by simp[Lib.firstT,show¬b0<128 by omega,a,b]) (by simp[Lib.firstT,Lib.accLo,show¬b0<128 by omega,a,b]) (by simp[Lib.firstT,Lib.accHi,show¬b0<128 by omega,a,b]) (by omega) (by unfold qdW;(repeat(first|rw[kac (by omega)]|rw[kag (by omega)]));rfl)
 by_cases c2:b0=224
 ·exact h 3 160 191 (by simp[Lib.firstT,show¬b0<128 by omega,a,b,c2]) (by simp[Lib.firstT,Lib.accLo,show¬b0<128 by omega,a,b,c2]) (by simp[Lib.firstT,Lib.accHi,show¬b0<128 by omega,a,b,c2]) (by omega) (by unfold qdW;(repeat(first|rw[kac (by omega)]|rw[kag (by omega)]));rfl)
 by_cases c:b0<237
 ·exact h 3 128 191 (by simp[Lib.firstT,show¬b0<128 by omega,a,b,c2,c]) (by simp[Lib.firstT,Lib.accLo,show¬b0<128 by omega,a,b,c2,c]) (by simp[Lib.firstT,Lib.accHi,show¬b0<128 by omega,a,b,c2,c]) (by omega) (by unfold qdW;(repeat(first|rw[kac (by omega)]|rw[kag (by omega)]));rfl)
 by_cases d:b0=237
 ·exact h 3 128 159 (by simp[Lib.firstT,show¬b0<128 by omega,a,b,c2,c,d]) (by simp[Lib.firstT,Lib.accLo,show¬b0<128 by omega,a,b,c2,c,d]) (by simp[Lib.firstT,Lib.accHi,show¬b0<128 by omega,a,b,c2,c,d]) (by omega) (by unfold qdW;(repeat(first|rw[kac (by omega)]|rw[kag (by omega)]));rfl)
 by_cases f:b0<240
 ·exact h 3 128 191 (by simp[Lib.firstT,show¬b0<128 by omega,a,b,c2,c,d,f]) (by simp[Lib.firstT,Lib.accLo,show¬b0<128 by omega,a,b,c2,c,d,f]) (by simp[Lib.firstT,Lib.accHi,show¬b0<128 by omega,a,b,c2,c,d,f]) (by omega) (by unfold qdW;(repeat(first|rw[kac (by omega)]|rw[kag (by omega)]));rfl)
 by_cases g:b0=240
 ·exact h 4 144 191 (by simp[Lib.firstT,show¬b0<128 by omega,a,b,c2,c,d,f,g]) (by simp[Lib.firstT,Lib.accLo,show¬b0<128 by omega,a,b,c2,c,d,f,g]) (by simp[Lib.firstT,Lib.accHi,show¬b0<128 by omega,a,b,c2,c,d,f,g]) (by omega) (by unfold qdW;(repeat(first|rw[kac (by omega)]|rw[kag (by omega)]));rfl)
 by_cases i:b0<244
 ·exact h 4 128 191 (by simp[Lib.firstT,show¬b0<128 by omega,a,b,c2,c,d,f,g,i]) (by simp[Lib.firstT,Lib.accLo,show¬b0<128 by omega,a,b,c2,c,d,f,g,i]) (by simp[Lib.firstT,Lib.accHi,show¬b0<128 by omega,a,b,c2,c,d,f,g,i]) (by omega) (by unfold qdW;(repeat(first|rw[kac (by omega)]|rw[kag (by omega)]));rfl)
 by_cases j:b0=244
 ·exact h 4 128 143 (by simp[Lib.firstT,show¬b0<128 by omega,a,b,c2,c,d,f,g,i,j]) (by simp[Lib.firstT,Lib.accLo,show¬b0<128 by omega,a,b,c2,c,d,f,g,i,j]) (by simp[Lib.firstT,Lib.accHi,show¬b0<128 by omega,a,b,c2,c,d,f,g,i,j]) (by omega) (by unfold qdW;(repeat(first|rw[kac (by omega)]|rw[kag (by omega)]));rfl)
 ·exact p (by simp[Lib.firstT,show¬b0<128 by omega,a,b,c2,c,d,f,g,i,j]) (by unfold qdW;repeat(first|rw[kac (by omega)]|rw[kag (by omega)]))
theorem qo5(l:List UInt8)(e:l≠[]):(szL l=0/\Lib.decodeL l=(65533,1))\/(1<=szL l/\(Lib.decodeL l).2=szL l/\¬((Lib.decodeL l).1=65533/\(Lib.decodeL l).2=1)):=by
 have f:=kc5.2 e;by_cases h:(l.getD 0 0).toNat<128
 ·right;obtain⟨b,t,rfl⟩:∃b t,l=b::t:=List.exists_cons_of_ne_nil e;rw[qz8 _ h,Lib.decodeL_ascii b t h];refine⟨kaf _,rfl,λd=>?_⟩;have:b.toNat=65533:=d.1;have:=b.toNat_lt;omega
 rw[qqF l (by omega),Lib.decodeL_N];rcases Lib.check_decode l.length (l.getD 0 0).toNat (l.getD 1 0).toNat (l.getD 2 0).toNat (l.getD 3 0).toNat f (by omega) (l.getD 0 0).toNat_lt (l.getD 1 0).toNat_lt (l.getD 2 0).toNat_lt (l.getD 3 0).toNat_lt with⟨a,c⟩|⟨k,g,a,c⟩
 ·left;rw[a,c];exact⟨rfl,rfl⟩
 right;rw[a,c];exact⟨by show 1<=k;omega,rfl,λd=>by omega⟩

theorem qvn(n a b c d:Nat)(e:128<=a):128<=(Lib.decodeN n a b c d).1:=by
 unfold Lib.decodeN
 repeat' split
 all_goals first|(simp;done)|(simp only[];omega)
def qto(r:Nat):Bool:=decide (r<=32)||(r==42||(r==91||(r==93||(r==47||r==46))))
def qo1:Nat->List UInt8->Option Nat
 |_,[]=>some 0
 |0,_::_=>none
 |g+1,b::t=>if qto (Lib.decodeL (b::t)).1=true then none else(qo1 g ((b::t).drop (Lib.decodeL (b::t)).2)).map (·+1)
theorem qzv(b:UInt8)(t:List UInt8):qto (Lib.decodeL (b::t)).1=qsk b:=by
 by_cases h:b.toNat<128
 ·rw[Lib.decodeL_ascii b t h];rfl
 have d:128<=(Lib.decodeL (b::t)).1:=by
  rw[Lib.decodeL_N];exact qvn _ _ _ _ _ (by show 128<=b.toNat;omega)
 have a:qto (Lib.decodeL (b::t)).1=false:=by
  unfold qto;simp only[kcV,kdu,ka1];omega
 have c:qsk b=false:=by
  unfold qsk;simp only[kcV,kdu,ka1];omega
 rw[a,c]
theorem qjV:∀(g:Nat) (l:List UInt8),l.length<=g->qmI g l=if Lib.validD l then qo1 g l else none
 |g,[],_=>by cases g<;>simp[qmI,qo1,Lib.validD_nil]
 |0,b::t,h=>by simp at h
 |g+1,b::t,h=>by
  rw[Lib.validD_step (b::t) (by simp)];rcases qo5 (b::t) (by simp)with⟨e,d⟩|⟨e,d,f⟩
  ·simp[qmI,e,d]
  rw[kac f,qmI,qo1,qzv,d];by_cases a:qsk b=true
  ·rw[kag (kd4 a),kag a];split<;>rfl
  rw[kac (by intro c;rcases c with c|c;omega;exact a c),kac a,qjV g _ (by rw[kaR];simp at h ⊢;omega)];split<;>rfl
theorem qpW(l:List UInt8):qhk l=(Lib.validD l&&qz5 (qo1 l.length l)):=by
 unfold qhk;rw[qjV l.length l (kaf _)];cases Lib.validD l
 ·rfl
 rfl

end
end Go.Proofs.YtmajcjammmjimaaGreatDoor
