import Derived.Laws.CopyRow
import Derived.Laws.MakeOwn
import Derived.Shelf.Unicode.DecodeSlow
import Derived.Lib.AppendIntMem
import Derived.Lib.ItoaLen
import Derived.Test.YtcokgepdckkjdaaGreatDoorRq07
import Derived.Test.YtcokgepdckkjdaaGreatDoorRq04
import Derived.Test.YtcokgepdckkjdaaGreatDoorRq06
set_option maxRecDepth 100000
set_option maxHeartbeats 8000000
namespace Go.Proofs.YtcokgepdckkjdaaGreatDoor
open Go.Proofs.Tryz
variable {V W w w':World}{P:Program}{ops:Array Oper}{o:Oper}{a:Act}{Q:Exit->Act->World->Prop}{b base:Nat}{F:Nat->Prop}{v:Value}{bs:List UInt8}
section
open Go.RowKit
def qxH (L:List (Int×Int)):List Value:=L.flatMap fun e=>[.int .i64 e.1,.int .i64 e.2]
theorem qyC:∀(L:List (Int×Int)) (i:Nat) (h:i<L.length),(qxH L)[i*2]? = some (.int .i64 L[i].1)/\(qxH L)[i*2+1]? = some (.int .i64 L[i].2)
 |[],i,h=>by simp at h
 |e::L,0,_=>⟨rfl,rfl⟩
 |e::L,i+1,h=>by
  have a:=qyC L i (by simpa using h);have b:(i+1)*2=i*2+2:=by omega
  have c:(i+1)*2+1=i*2+1+2:=by omega
  constructor
  ·show([Value.int .i64 e.1,.int .i64 e.2]++qxH L)[(i+1)*2]? = _;rw[b,List.getElem?_append_right (by simp)];simpa using a.1
  show([Value.int .i64 e.1,.int .i64 e.2]++qxH L)[(i+1)*2+1]? = _;rw[c,List.getElem?_append_right (by simp)];simpa using a.2
theorem qyF (A B:List (Int×Int)):qxH (A++B)=qxH A++qxH B:=by simp[qxH]

theorem qcn (b off j:Nat):(⟨b,off,none⟩:Addr).add j=⟨b,off+j,none⟩:=by unfold Addr.add;split<;>simp_all

structure Cfg where
 labels:Int
 L:List (Int×Int)
 ea:Option Addr
 ecap:Nat
 dflt:Int
 pol:ByteArray
 clr:Int
 key:Int
 inn:Int
 out:Int
 depth:Int
 bytes:Int
 B:List Int
 ba:Option Addr
 bcap:Nat
def Cfg.arr (c:Cfg):Array Value:=#[.int .i64 c.labels,.slice c.ea c.L.length c.ecap,.int .i64 c.dflt,.string c.pol,.int .i64 c.clr,.int .i64 c.key,.int .i64 c.inn,.int .i64 c.out,.int .i64 c.depth,.int .i64 c.bytes,.slice c.ba c.B.length c.bcap]
theorem Cfg.size (c:Cfg):c.arr.size=11:=rfl
theorem Cfg.one (c:Cfg):c.arr.all (·.oneCell')=true:=by simp[Cfg.arr,Value.oneCell']
structure ql7 (w:World)(c:Cfg):Prop where
 edges:qaY w c.ea c.L
 ints:qbV w c.ba c.B
 en:c.ea=none->c.L.length=0/\c.ecap=0
 bn:c.ba=none->c.B.length=0/\c.bcap=0
 eb:(c.L.length+8)*16<=281474976710656
 bb:(c.B.length+8)*8<=281474976710656
theorem ql7.below {c:Cfg}(h:ql7 w c)(a:Below w.heap.size w w'):ql7 w' c:=⟨h.edges.below a,h.ints.below a,h.en,h.bn,h.eb,h.bb⟩
structure qlZ (w:World):Prop where
 signs:∃t fr,w.heap[0]? = some (.cells #[.string ⟨#[42]⟩,.int .i64 0,.string ⟨#[42,42]⟩,.int .i64 1,.string ⟨#[91,93]⟩,.int .i64 2] t fr)
 tabs:Lib.Utf8Tabs 4 5 w
 mlen:∃m,w.cell? ⟨3,0,none⟩=some (.int .i64 m)
theorem qlZ.below (h:qlZ w)(a:Below w.heap.size w w'):qlZ w':=by
 obtain⟨t,d,b⟩:=h.signs;obtain⟨m,c⟩:=h.mlen;exact⟨⟨t,d,(a.block _ (ltA b)).trans b⟩,Utf8Tabs_below h.tabs a,⟨m,(a.cell (p:=⟨_,0,none⟩) (block_lt_of_cell c)).trans c⟩⟩
def qwN (f:Nat)(E N:Cfg->Int):Prop:=∀(c:Cfg) (w:World),ql7 w c->qlZ w->Calls prog f #[.agg c.arr] w fun e w'=>e=.returned (.tuple #[.int .i64 (E c),.int .i64 (N c)])/\Below w.heap.size w w'

theorem Cfg.f1 (c:Cfg):c.arr[1]? = some (.slice c.ea c.L.length c.ecap):=rfl
theorem Cfg.f10 (c:Cfg):c.arr[10]? = some (.slice c.ba c.B.length c.bcap):=rfl

def qie (c:Int)(n:Nat):Nat:=((if c<0 then -(c+1) else c)%(n:Int)).toNat
theorem qr6 (c:Int)(n:Nat)(h:1<=n):qie c n<n:=by
 unfold qie;have a:=Int.emod_nonneg (if c<0 then -(c+1) else c) (show(n:Int)≠0 by omega);have b:=Int.emod_lt_of_pos (if c<0 then -(c+1) else c) (show(0:Int)<n by omega);omega

end
section
open Go.RowKit Go.Lib
theorem qcx  : ∀w:World,(Instr.typeAssert (.iface 187 (.agg #[])) 104 258 true).run prog w=.ok (.tuple #[.bool false,.bool false]) w:=fun w=>by kernel_rfl
theorem qcf  : ∀w:World,(Instr.typeAssert (.iface 187 (.agg #[])) 104 260 true).run prog w=.ok (.tuple #[.int .i64 0,.bool false]) w:=fun w=>by kernel_rfl
theorem qcN  : ∀w:World,(Instr.typeAssert (.iface 187 (.agg #[])) 104 220 true).run prog w=.ok (.tuple #[.string ByteArray.empty,.bool false]) w:=fun w=>by kernel_rfl
theorem qd6  : ∀w:World,(Instr.typeAssert (.iface 187 (.agg #[])) 104 222 true).run prog w=.ok (.tuple #[.slice none 0 0,.bool false]) w:=fun w=>by kernel_rfl
theorem qcO  : ∀w:World,(Instr.typeAssert (.iface 187 (.agg #[])) 104 224 true).run prog w=.ok (.tuple #[.slice none 0 0,.bool false]) w:=fun w=>by kernel_rfl
theorem qdq  : ∀w:World,(Instr.typeAssert (.iface 187 (.agg #[])) 104 226 true).run prog w=.ok (.tuple #[.slice none 0 0,.bool false]) w:=fun w=>by kernel_rfl
theorem qbu (b:Bool):∀w:World,(Instr.typeAssert (.iface 258 (.bool b)) 104 258 true).run prog w=.ok (.tuple #[.bool b,.bool true]) w:=fun w=>by kernel_rfl
theorem qdU (s:ByteArray):∀w:World,(Instr.typeAssert (.iface 220 (.string s)) 104 258 true).run prog w=.ok (.tuple #[.bool false,.bool false]) w:=fun w=>by kernel_rfl
theorem qdi (s:ByteArray):∀w:World,(Instr.typeAssert (.iface 220 (.string s)) 104 260 true).run prog w=.ok (.tuple #[.int .i64 0,.bool false]) w:=fun w=>by kernel_rfl
theorem qeH (s:ByteArray):∀w:World,(Instr.typeAssert (.iface 220 (.string s)) 104 220 true).run prog w=.ok (.tuple #[.string s,.bool true]) w:=fun w=>by kernel_rfl
theorem qbL (a:Option Addr)(n c:Nat):∀w:World,(Instr.typeAssert (.iface 222 (.slice a n c)) 104 258 true).run prog w=.ok (.tuple #[.bool false,.bool false]) w:=fun w=>by kernel_rfl
theorem qb3 (a:Option Addr)(n c:Nat):∀w:World,(Instr.typeAssert (.iface 222 (.slice a n c)) 104 260 true).run prog w=.ok (.tuple #[.int .i64 0,.bool false]) w:=fun w=>by kernel_rfl
theorem qbX (a:Option Addr)(n c:Nat):∀w:World,(Instr.typeAssert (.iface 222 (.slice a n c)) 104 220 true).run prog w=.ok (.tuple #[.string ByteArray.empty,.bool false]) w:=fun w=>by kernel_rfl
theorem qco (a:Option Addr)(n c:Nat):∀w:World,(Instr.typeAssert (.iface 222 (.slice a n c)) 104 222 true).run prog w=.ok (.tuple #[.slice a n c,.bool true]) w:=fun w=>by kernel_rfl
theorem qdI (a:Option Addr)(n c:Nat):∀w:World,(Instr.typeAssert (.iface 224 (.slice a n c)) 104 258 true).run prog w=.ok (.tuple #[.bool false,.bool false]) w:=fun w=>by kernel_rfl
theorem qda (a:Option Addr)(n c:Nat):∀w:World,(Instr.typeAssert (.iface 224 (.slice a n c)) 104 260 true).run prog w=.ok (.tuple #[.int .i64 0,.bool false]) w:=fun w=>by kernel_rfl
theorem qeI (a:Option Addr)(n c:Nat):∀w:World,(Instr.typeAssert (.iface 224 (.slice a n c)) 104 220 true).run prog w=.ok (.tuple #[.string ByteArray.empty,.bool false]) w:=fun w=>by kernel_rfl
theorem qg1 (a:Option Addr)(n c:Nat):∀w:World,(Instr.typeAssert (.iface 224 (.slice a n c)) 104 222 true).run prog w=.ok (.tuple #[.slice none 0 0,.bool false]) w:=fun w=>by kernel_rfl
theorem qeC (a:Option Addr)(n c:Nat):∀w:World,(Instr.typeAssert (.iface 224 (.slice a n c)) 104 224 true).run prog w=.ok (.tuple #[.slice a n c,.bool true]) w:=fun w=>by kernel_rfl
theorem qeD (a:Option Addr)(n c:Nat):∀w:World,(Instr.typeAssert (.iface 226 (.slice a n c)) 104 258 true).run prog w=.ok (.tuple #[.bool false,.bool false]) w:=fun w=>by kernel_rfl
theorem qdR (a:Option Addr)(n c:Nat):∀w:World,(Instr.typeAssert (.iface 226 (.slice a n c)) 104 260 true).run prog w=.ok (.tuple #[.int .i64 0,.bool false]) w:=fun w=>by kernel_rfl
theorem qf7 (a:Option Addr)(n c:Nat):∀w:World,(Instr.typeAssert (.iface 226 (.slice a n c)) 104 220 true).run prog w=.ok (.tuple #[.string ByteArray.empty,.bool false]) w:=fun w=>by kernel_rfl
theorem qhd (a:Option Addr)(n c:Nat):∀w:World,(Instr.typeAssert (.iface 226 (.slice a n c)) 104 222 true).run prog w=.ok (.tuple #[.slice none 0 0,.bool false]) w:=fun w=>by kernel_rfl
theorem qfH (a:Option Addr)(n c:Nat):∀w:World,(Instr.typeAssert (.iface 226 (.slice a n c)) 104 224 true).run prog w=.ok (.tuple #[.slice none 0 0,.bool false]) w:=fun w=>by kernel_rfl
theorem qhO (a:Option Addr)(n c:Nat):∀w:World,(Instr.typeAssert (.iface 226 (.slice a n c)) 104 226 true).run prog w=.ok (.tuple #[.slice a n c,.bool true]) w:=fun w=>by kernel_rfl
theorem qkS (W:World)(b:Nat)(v:Value)(bs:List UInt8)(p:bs.length<=999999999)(h:Own W b v bs):Calls prog 121 #[v,.iface 187 (.agg #[])] W fun e d=>∃g,e=.returned g/\Own d b g (bs++qaj 7 22)/\Below b W d:=by
 obtain⟨y,t,u,w,x⟩:=info_parts Tryz.infoU8;obtain⟨f,o,a,n,c,rfl⟩:=h;have i:Hid (Own W b (.slice a n c) bs):=⟨f,o,a,n,c,rfl⟩
 have q:=qaa f;have A:=qcx;have B:=qcf;have C:=qcN;have D:=qd6;have E:=qcO;have F:=qdq;go_enter func121,ntmps121
 go_wp2_with (first
  |(go_at_call 146;refine(qbl _ b _ bs 7 22 (by omega) (by omega) p i.out).mono ?_;rintro e H ⟨G,rfl,j,m⟩;obtain⟨k,l,r,z,s,rfl⟩:=j))
 go_ret;exact⟨_,rfl,⟨k,l,_,_,_,rfl⟩,m⟩
theorem qgF (W:World)(b:Nat)(v:Value)(bs:List UInt8)(p:bs.length<=999999999)(h:Own W b v bs):Calls prog 121 #[v,.iface 258 (.bool true)] W fun e d=>∃g,e=.returned g/\Own d b g (bs++qaj 7 21)/\Below b W d:=by
 obtain⟨y,t,u,w,x⟩:=info_parts Tryz.infoU8;obtain⟨f,o,a,n,c,rfl⟩:=h;have i:Hid (Own W b (.slice a n c) bs):=⟨f,o,a,n,c,rfl⟩
 have q:=qaa f;have A:=qbu true;go_enter func121,ntmps121
 go_wp2_with (first
  |(go_at_call 146;refine(qbl _ b _ bs 7 21 (by omega) (by omega) p i.out).mono ?_;rintro e C ⟨B,rfl,j,m⟩;obtain⟨k,l,r,z,s,rfl⟩:=j))
 go_ret;exact⟨_,rfl,⟨k,l,_,_,_,rfl⟩,m⟩
theorem qga (W:World)(b:Nat)(v:Value)(bs:List UInt8)(p:bs.length<=999999999)(h:Own W b v bs):Calls prog 121 #[v,.iface 258 (.bool false)] W fun e d=>∃g,e=.returned g/\Own d b g (bs++qaj 7 20)/\Below b W d:=by
 obtain⟨y,t,u,w,x⟩:=info_parts Tryz.infoU8;obtain⟨f,o,a,n,c,rfl⟩:=h;have i:Hid (Own W b (.slice a n c) bs):=⟨f,o,a,n,c,rfl⟩
 have q:=qaa f;have A:=qbu false;go_enter func121,ntmps121
 go_wp2_with (first
  |(go_at_call 146;refine(qbl _ b _ bs 7 20 (by omega) (by omega) p i.out).mono ?_;rintro e C ⟨B,rfl,j,m⟩;obtain⟨k,l,r,z,s,rfl⟩:=j))
 go_ret;exact⟨_,rfl,⟨k,l,_,_,_,rfl⟩,m⟩
theorem qrp (W:World)(b:Nat)(v:Value)(bs:List UInt8)(l:List UInt8)(q:bs.length<=999999999)(r:l.length<=999999999)(h:Own W b v bs):Calls prog 121 #[v,.iface 220 (.string ⟨l.toArray⟩)] W fun e d=>∃g,e=.returned g/\Own d b g (bs++(qaj 3 l.length++l))/\Below b W d:=by
 obtain⟨A,w,x,y,z⟩:=info_parts Tryz.infoU8;obtain⟨f,p,a,n,c,rfl⟩:=h;have i:Hid (Own W b (.slice a n c) bs):=⟨f,p,a,n,c,rfl⟩
 have s:=qaa f;have C:=qdU ⟨l.toArray⟩;have D:=qdi ⟨l.toArray⟩;have E:=qeH ⟨l.toArray⟩;go_enter func121,ntmps121
 go_wp2_with (first
  |(go_at_call 147;refine(qjn _ b _ bs l q r i.out).mono ?_;rintro e G ⟨F,rfl,j,o⟩;obtain⟨k,m,t,B,u,rfl⟩:=j))
 go_ret;exact⟨_,rfl,⟨k,m,_,_,_,rfl⟩,o⟩

theorem qcT (w:World)(t a b e:TypeId)(c:P.underlying t=some (.slice e))(d:P.underlying a=some (.slice e))(s:Value)(x:Value):(Builtin.append_ #[t,a] b #[s,x]).run P w=(Builtin.append_ #[t,t] b #[s,x]).run P w:=by
 cases s<;>simp[Builtin.append_,run_underlying c,run_underlying d]
theorem qcr (w:World){rest:List Oper}(H:o.guard=none)(s x:Operand)(t p:TypeId)(L:o.op=.call {callee:=.builtin .append,args:=#[s,x],argTypes:=#[t,p]})(f:Nat)(e:TypeId)(i:TypeInfo)(z:Value)(size l:Nat)(r:P.underlying t=some (.slice e))(S:P.underlying p=some (.slice e))(hi:P.info? e=some i)(U:i.zero=some z)(O:i.size=size)(F:i.bytes=l)(V:z.cells.size=size)(R:0<size)(v:Value)(n:Nat)(xs:List Value)(N:a.eval s=v)(M:w.ownsRow f e size v n xs)(k:Addr)(m c:Nat)(b:List Value)(T:a.eval x=.slice (some k) m c)(I:b.length=m*size)(J:∀j u,b[j]? = some u->w.cell? (k.add j)=some u)(y:∀u∈b,u.oneCell'=true)(C:n+m<=maxLen)(G:(n+m)*l<=140737488355328)(E:f<=w.heap.size)(h:∀g d,d.ownsRow f e size g (n+m) (xs++b)->w.grownBy d v.ownBlock->wpList P ops Q rest (a.put o.dst g) d):wpList P ops Q (o::rest) a w:=by
 refine wpList_plain H fun K D => ?_;obtain⟨g,d,q,A,B,_⟩:=run_append_own (P:=P) w f t o.type e i z size l r hi U O F V R v n xs M k m c b I J y C G E;rw[<-qcT w t p o.type e r S] at q;unfold Oper.wp execOp;simp only[L,resolve,invoke,builtin,Sem.run_bind,Sem.run_pure,Result.andThen_ok,List.map_toArray,List.map_cons,List.map_nil,N,T,q];exact D _ _ (h g d A B)
theorem qce {rest:List Oper}(j:o.guard=none)(s x:Operand)(t b:TypeId)(k:o.op=.call {callee:=.builtin .append,args:=#[s,x],argTypes:=#[t,b]})(c:Nat)(e:TypeId)(i:TypeInfo)(size:Nat)(f:P.underlying t=some (.slice e))(p:P.underlying b=some (.slice e))(hi:P.info? e=some i)(v:Value)(n:Nat)(xs:List Value)(m:a.eval s=v)(l:w.ownsRow c e size v n xs)(q:a.eval x=.slice none 0 0)(h:wpList P ops Q rest (a.put o.dst v) w):wpList P ops Q (o::rest) a w:=by
 refine wpList_plain j fun K g => ?_;have d:=run_append_owned_none (P:=P) (w:=w) c t o.type e i size f hi v n xs l;rw[<-qcT w t b o.type e f p] at d;unfold Oper.wp execOp;simp only[k,resolve,invoke,builtin,Sem.run_bind,Sem.run_pure,Result.andThen_ok,List.map_toArray,List.map_cons,List.map_nil,m,q,d];exact g _ _ h
theorem qb1.cell {t:TypeId}{size n:Nat}{g cap:Nat}{xs:List Value}(h:qb1 V t size F (.slice (some ⟨g,0,none⟩) n cap) n xs):∀j u,xs[j]? = some u->V.cell? ((⟨g,0,none⟩:Addr).add j)=some u:=by
 obtain⟨p,b⟩:=h;rcases b with ⟨e,_⟩|⟨k,f,i,e,hF,d,l,m,o,c⟩
 ·simp at e
 injection e with e1 e2 e3;injection e1 with e1;injection e1 with e1;subst e1;intro j u a;have e:(⟨g,0,none⟩:Addr).add j=⟨g,j,none⟩:=by by_cases h:j=0<;>simp[Addr.add,h]
 rw[e,cell_of_row _ _ _ _ _ _ d];rw[<-c,List.getElem?_take] at a;split at a
 ·simpa using a
 simp at a
theorem qeY {W':World}{v':Value}{l:List UInt8}(h:Own W base v bs)(c:W'.ownsRow base 5 1 v' (bs.length+l.length) (bs.map qav++l.map qav))(d:W.grownBy W' v.ownBlock):Own W' base v' (bs++l)/\Below base W W':=by
 obtain⟨f,b,_⟩:=h;have a:=qaz (Below.refl base W) f d b;refine⟨⟨by rw[List.length_append,List.map_append];exact c,Nat.le_trans b a.size,?_⟩,a⟩;rcases c.2 with ⟨e,_⟩|⟨g,i,j,e,_⟩
 ·exact⟨none,0,0,e⟩
 exact⟨_,_,_,e⟩
theorem qp5 (x k:Nat):(beF x k).length=k:=by induction k with|zero=>rfl|succ k a=>rw[beF,List.length_cons,a]
theorem qnc (s x:Nat):(qaj s x).length<=9:=by
 unfold qaj
 repeat' split
 all_goals simp[qp5]
theorem qnV (W:World)(d:Nat)(v u:Value)(F:Nat->Prop)(hF:∀k,F k->k<d)(bs l:List UInt8)(M:bs.length<=999999999)(ad:l.length<=999999999)(r:qb1 W 5 1 F u l.length (l.map qav))(h:Own W d v bs):Calls prog 121 #[v,.iface 222 u] W fun e j=>∃i,e=.returned i/\Own j d i (bs++(qaj 2 l.length++l))/\Below d W j:=by
 obtain⟨E,C,Q,R,S⟩:=info_parts Tryz.infoU8;obtain⟨O,J,a,n,c,rfl⟩:=h;have H:Hid (Own W d (.slice a n c) bs):=⟨O,J,a,n,c,rfl⟩
 have w:Calls prog 146 #[.slice a n c,.int .u8 2,.int .u64 l.length] W fun e j=>∃i,e=.returned i/\Own j d i (bs++qaj 2 l.length)/\Below d W j:=qbl W d (.slice a n c) bs 2 l.length (by decide) (by omega) M H.out;have K:(qaj 2 l.length).length<=9:=qnc _ _;rcases r.2 with ⟨rfl,D⟩|⟨g,o,Z,rfl,aa,ab,ac⟩
 ·have N:=List.eq_nil_of_length_eq_zero D;rw[D] at w K;rw[N];have T:=qbL none 0 0;have U:=qb3 none 0 0;have V:=qbX none 0 0;have X:=qco none 0 0;go_enter func121,ntmps121
  go_wp2_with (first
   |(go_at_call 146;refine w.mono ?_;rintro e B ⟨Y,rfl,x,y⟩;obtain⟨A,t,m,p,c2,rfl⟩:=x;have f:Hid (Own B d (.slice m p c2) (bs++qaj 2 0)):=⟨A,t,_,_,_,rfl⟩;have q:=qaa y)
   |(at_builtin;refine qce rfl _ _ 66 222 rfl d 5 E 1 underlying66 underlying222 C (.slice m p c2) _ _ rfl f.out.1 rfl ?_))
  go_ret;rw[List.append_nil];exact⟨_,rfl,f.out,q.out⟩
 have I:=qaa r;have T:=qbL (some ⟨g,0,none⟩) l.length o;have U:=qb3 (some ⟨g,0,none⟩) l.length o;have V:=qbX (some ⟨g,0,none⟩) l.length o;have X:=qco (some ⟨g,0,none⟩) l.length o;go_enter func121,ntmps121
 go_wp2_with (first
  |(go_at_call 146;refine w.mono ?_;rintro e B ⟨Y,rfl,x,y⟩;obtain⟨A,t,m,p,c2,rfl⟩:=x;have f:Hid (Own B d (.slice m p c2) (bs++qaj 2 l.length)):=⟨A,t,_,_,_,rfl⟩;have q:=qaa y)
  |(at_builtin;refine qcr _ rfl _ _ 66 222 rfl d 5 E (.int .u8 0) 1 1 underlying66 underlying222 C Q R S rfl (by decide) (.slice m p c2) _ _ rfl f.out.1 ⟨g,0,none⟩ l.length o (l.map qav) rfl (by simp) (I.out.same (G:=F) (fun k z=>z) (fun k z=>q.out.block k (hF k z))).cell (fun u r=>by obtain⟨b,_,rfl⟩:=List.mem_map.mp r;rfl) (by rw[List.length_append];unfold maxLen;omega) (by rw[List.length_append];omega) f.out.2.1 ?_;intro i w5 P L;have s:=qaa (qeY f.out P L)))
 go_ret;rw[List.append_assoc] at s;exact⟨_,rfl,s.out.1,q.out.trans s.out.2⟩

def qbQ (W:World)(base:Nat)(x:Value)(ys:List UInt8):Prop:=∀(V:World) (v:Value) (bs:List UInt8),Below base W V->Own V base v bs->bs.length+ys.length<=999999999->Calls prog 121 #[v,x] V fun e W'=>∃v',e=.returned v'/\Own W' base v' (bs++ys)/\Below base V W'
theorem qqx (T:DataW Unit->List UInt8)(W:World)(b:Nat)(v u:Value)(F:Nat->Prop)(hF:∀k,F k->k<b)(bs:List UInt8)(ds:List (DataW Unit))(xs:List Value)(hl:bs.length+((qaj 4 ds.length)++ds.flatMap T).length<=999999999)(hn:ds.length<=999999999)(N:qb1 W 104 1 F u ds.length xs)(ad:∀(i:Nat) (x:Value) (d:DataW Unit),xs[i]? = some x->ds[i]? = some d->qbQ W b x (T d))(ac:∀(i:Nat) (x:Value),xs[i]? = some x->∃ah y,x=.iface ah y)(h:Own W b v bs):Calls prog 121 #[v,.iface 224 u] W fun e l=>∃m,e=.returned m/\Own l b m (bs++(qaj 4 ds.length++ds.flatMap T))/\Below b W l:=by
 have af:bs.length<=999999999:=by omega
 obtain⟨ho,hb,a,n,c,rfl⟩:=h;have t:Hid (Own W b (.slice a n c) bs):=⟨ho,hb,a,n,c,rfl⟩
 have cH:Calls prog 146 #[.slice a n c,.int .u8 4,.int .u64 ds.length] W fun e l=>∃m,e=.returned m/\Own l b m (bs++qaj 4 ds.length)/\Below b W l:=qbl W b (.slice a n c) bs 4 ds.length (by decide) (by omega) af t.out;obtain⟨q,f,rfl⟩:∃q f,u=.slice q ds.length f:=by
  rcases N.2 with ⟨e,K⟩|⟨g,f,z,e,_⟩
  ·exact⟨none,0,by rw[e,K]⟩
  exact⟨_,_,e⟩
 have HU:=qaa N;have V:=qaa ad;have X:=qaa hl;have U:=qaa ac;have al:=qdI q ds.length f;have am:=qda q ds.length f;have an:=qeI q ds.length f;have ao:=qg1 q ds.length f;have ap:=qeC q ds.length f;go_enter func121,ntmps121
 go_wp2_with (first
  |(go_at_call 146;refine cH.mono ?_;rintro e w2 ⟨v2,rfl,r,aa⟩;obtain⟨o2,b2,H,O,c2,rfl⟩:=r;have Y:Hid (Own w2 b (.slice H O c2) (bs++qaj 4 ds.length)):=⟨o2,b2,_,_,_,rfl⟩;have R:=qaa aa))
 go_loopg [0,64,11] ds.length (fun g y ai x wr=>∃(k:Nat) (A:Option Addr) (D B:Nat),y=.slice A D B/\ai=.int .i64 k/\Hid (k+g=ds.length)/\Hid (Own wr b (.slice A D B) ((bs++qaj 4 ds.length)++(ds.take k).flatMap T))/\Hid (Below b W wr))
 case atStart=>exact⟨0,H,O,c2,rfl,rfl,by show _=_;omega,by simpa using Y,R⟩
 case round =>
  obtain⟨k,A,D,B,rfl,rfl,s,E,o⟩:=hrel
  cases gk with
  |zero =>
   have ag:¬(k:Int)<ds.length:=by have:=s.out;omega
   have p:Hid (ds.take k=ds):=by show _=_;exact List.take_of_length_le (by have:=s.out;omega)
   go_wp2;go_ret;have L:=E.out;rw[p.out,List.append_assoc] at L;exact⟨_,rfl,L,o.out⟩
  |succ g =>
   have ae:k<ds.length:=by have:=s.out;omega
   have ag:(k:Int)<ds.length:=by omega
   have w:=HU.out.same (V':=wr) (G:=F) (fun _ h=>h) (fun j hj=>o.out.block j (hF j hj));obtain⟨q0,rfl⟩:∃q0,q=some ⟨q0,0,none⟩:=by
    rcases w.2 with ⟨_,e⟩|⟨g,aj,z,e,_⟩
    ·omega
    injection e with e1 K e3;exact⟨g,e1⟩
   have ak:xs.length=ds.length:=by have:=w.1;omega
   obtain⟨x,C⟩:∃x,xs[k]? = some x:=⟨xs[k],List.getElem?_eq_getElem (by omega)⟩
   obtain⟨d,M⟩:∃d,ds[k]? = some d:=⟨ds[k],List.getElem?_eq_getElem ae⟩
   obtain⟨tx,yx,rfl⟩:=U.out k x C;have hc:wr.cell? ⟨q0,k,none⟩=some (.iface tx yx):=by
    have:=w.cell k _ C;have e:(⟨q0,0,none⟩:Addr).add k=⟨q0,k,none⟩:=by by_cases h:k=0<;>simp[Addr.add,h]
    rwa [e] at this
   have p:Hid ((ds.take (k+1)).flatMap T=(ds.take k).flatMap T++T d):=by
    show _=_;rw[List.take_add_one,M];simp
   have Q:Hid (((bs++qaj 4 ds.length)++(ds.take k).flatMap T).length+(T d).length<=999999999):=by
    show _<=_;have h1:=X.out;have r:(ds.flatMap T).length=((ds.take (k+1)).flatMap T).length+((ds.drop (k+1)).flatMap T).length:=by
     rw[<-List.length_append,<-List.flatMap_append,List.take_append_drop]
    rw[p.out] at r;simp only[List.length_append] at h1 r ⊢;omega
   have cI:=V.out k _ d C M wr _ _ o.out E.out Q.out
   go_wp2_with (first
    |(go_at_call 121;refine cI.mono ?_;rintro e w4 ⟨v4,rfl,h4,ab⟩;obtain⟨o4,b4,I,P,J,rfl⟩:=h4;have Z:Hid (Own w4 b (.slice I P J) (((bs++qaj 4 ds.length)++(ds.take k).flatMap T)++T d)):=⟨o4,b4,_,_,_,rfl⟩;have S:=qaa (o.out.trans ab)))
   go_roundg g
   case measure=>omega
   case rel=>exact⟨k+1,I,P,J,rfl,by go_num,by show _=_;have:=s.out;omega,by show Own _ _ _ _;rw[p.out,<-List.append_assoc];exact Z.out,S⟩

def qkn:Nat->DataW Unit->Bool
 |0,_=>false
 |k+1,d=>match d with
  |.ptr (.lit (.string _))=>true
  |.agg ds=>ds.any (qkn k)
  |.map es=>es.any fun e=>qkn k e.2
  |_=>false
theorem qgN  : ∀w:World,(Instr.typeAssert (.iface 187 (.agg #[])) 104 222 true).run prog w=.ok (.tuple #[.slice none 0 0,.bool false]) w:=fun w=>by kernel_rfl
theorem qen  : ∀w:World,(Instr.typeAssert (.iface 187 (.agg #[])) 104 224 true).run prog w=.ok (.tuple #[.slice none 0 0,.bool false]) w:=fun w=>by kernel_rfl
theorem qeW  : ∀w:World,(Instr.typeAssert (.iface 187 (.agg #[])) 104 226 true).run prog w=.ok (.tuple #[.slice none 0 0,.bool false]) w:=fun w=>by kernel_rfl
theorem qkH (s:ByteArray):∀w:World,(Instr.typeAssert (.iface 220 (.string s)) 104 222 true).run prog w=.ok (.tuple #[.slice none 0 0,.bool false]) w:=fun w=>by kernel_rfl
theorem qhp (s:ByteArray):∀w:World,(Instr.typeAssert (.iface 220 (.string s)) 104 224 true).run prog w=.ok (.tuple #[.slice none 0 0,.bool false]) w:=fun w=>by kernel_rfl
theorem qkf (s:ByteArray):∀w:World,(Instr.typeAssert (.iface 220 (.string s)) 104 226 true).run prog w=.ok (.tuple #[.slice none 0 0,.bool false]) w:=fun w=>by kernel_rfl
theorem qmZ (W:World):Calls prog 92 #[.iface 187 (.agg #[])] W fun e a=>e=.returned (.bool false)/\Below W.heap.size W a:=by
 have b:=qgN;have c:=qen;have d:=qeW;go_enter func92,ntmps92;go_wp2;go_ret;exact⟨rfl,Below.refl _ _⟩
theorem quz (W:World)(s:ByteArray):Calls prog 92 #[.iface 220 (.string s)] W fun e a=>e=.returned (.bool false)/\Below W.heap.size W a:=by
 have b:=qkH s;have c:=qhp s;have d:=qkf s;go_enter func92,ntmps92;go_wp2;go_ret;exact⟨rfl,Below.refl _ _⟩

theorem qai.iface:∀{k:Nat} {v:Value} {d:DataW Unit},qai k V F v d->∃t y,v=.iface t y
 |0,_,_,h=>h.elim
 |k+1,v,d,h=>by
  unfold qai at h;split at h
  ·exact⟨_,_,h⟩
  ·exact⟨_,_,h⟩
  ·exact⟨_,_,h.1⟩
  ·exact⟨_,_,h⟩
  ·obtain⟨u,e,_⟩:=h;exact⟨_,_,e⟩
  ·obtain⟨u,a,e,_⟩:=h;exact⟨_,_,e⟩
  ·obtain⟨u,a,e,_⟩:=h;exact⟨_,_,e⟩
  exact h.elim

def qb7:Lit->List UInt8
 |.string l=>l
 |_=>[]
theorem qvX (h:Own W base v bs):v.ownBlock≠some W.heap.size:=by
 obtain⟨b,_,_⟩:=h;rcases b.2 with ⟨rfl,_⟩|⟨g,c,d,rfl,_,a,_⟩
 ·intro e;cases e
 have:=ltA a;intro e;simp[Value.ownBlock] at e;omega
theorem qkc (h:Own W base v bs)(o:Obj):qg2 (W.alloc o) base W.heap.size v bs:=⟨⟨h.1.alloc _,by have:=h.2.1;simp;omega,h.2.2⟩,qvX h,by simp⟩
theorem quo (T:DataW Unit->List UInt8)(W:World)(f:Nat)(v u:Value)(F:Nat->Prop)(hF:∀k,F k->k<f)(bs:List UInt8)(b:List (Lit×DataW Unit))(xs:List Value)(Y:bs.length+((qaj 5 b.length)++b.flatMap (fun e:Lit×DataW Unit=>(qaj 3 (qb7 e.1).length++qb7 e.1)++T e.2)).length<=999999999)(hn:b.length<=999999999)(Z:qb1 W 228 2 F u b.length xs)(ai:∀(i:Nat) (key:Lit) (d:DataW Unit),b[i]? = some (key,d)->∃l t y,key=.string l/\xs[2*i]? = some (.string ⟨l.toArray⟩)/\xs[2*i+1]? = some (.iface t y)/\qbQ W f (.iface t y) (T d))(h:Own W f v bs):Calls prog 121 #[v,.iface 226 u] W fun e p=>∃s,e=.returned s/\Own p f s (bs++(qaj 5 b.length++b.flatMap (fun e:Lit×DataW Unit=>(qaj 3 (qb7 e.1).length++qb7 e.1)++T e.2)))/\Below f W p:=by
 have ak:bs.length<=999999999:=by omega
 obtain⟨a,n,c,rfl⟩:=h.2.2;have cH:Calls prog 146 #[.slice a n c,.int .u8 5,.int .u64 b.length] W fun e p=>∃s,e=.returned s/\Own p f s (bs++qaj 5 b.length)/\Below f W p:=qbl W f (.slice a n c) bs 5 b.length (by decide) (by omega) ak h;obtain⟨q,o,rfl⟩:∃q o,u=.slice q b.length o:=by
  rcases Z.2 with ⟨e,U⟩|⟨g,o,af,e,_⟩
  ·exact⟨none,0,by rw[e,U]⟩
  exact⟨_,_,e⟩
 have HU:=qaa Z;have HI:=qaa ai;obtain⟨m,O⟩:∃m:Lit×DataW Unit->List UInt8,Hid (m=(fun e:Lit×DataW Unit=>(qaj 3 (qb7 e.1).length++qb7 e.1)++T e.2)):=⟨_,show _=_ from rfl⟩
 rw[<-O.out] at Y ⊢;have HL:=qaa Y;have aw:=qeD q b.length o;have ax:=qdR q b.length o;have ay:=qf7 q b.length o;have az:=qhd q b.length o;have a0:=qfH q b.length o;have a1:=qhO q b.length o;go_enter func121,ntmps121
 go_wp2_with (first
  |(go_at_call 146;refine cH.mono ?_;rintro e w2 ⟨v2,rfl,B,ag⟩;obtain⟨o2,b2,Q,x,c2,rfl⟩:=B;have ac:Hid (Own w2 f (.slice Q x c2) (bs++qaj 5 b.length)):=⟨o2,b2,_,_,_,rfl⟩;have aa:=qaa ag))
 go_loopg [0,83,14] b.length (fun g y ao a6 wr=>∃(k:Nat) (J:Option Addr) (M K:Nat),y=.slice J M K/\ao=.int .i64 k/\Hid (k+g=b.length)/\Hid (Own wr f (.slice J M K) ((bs++qaj 5 b.length)++(b.take k).flatMap m))/\Hid (Below f W wr))
 case atStart=>exact⟨0,Q,x,c2,rfl,rfl,by show _=_;omega,by simpa using ac,aa⟩
 case round =>
  obtain⟨k,J,M,K,rfl,rfl,C,H,E⟩:=hrel
  cases gk with
  |zero =>
   have al:¬(k:Int)<b.length:=by have:=C.out;omega
   have A:Hid (b.take k=b):=by show _=_;exact List.take_of_length_le (by have:=C.out;omega)
   go_wp2;go_ret;have V:=H.out;rw[A.out,List.append_assoc] at V;exact⟨_,rfl,V,E.out⟩
  |succ g =>
   have aj:k<b.length:=by have:=C.out;omega
   have al:(k:Int)<b.length:=by omega
   have I:=HU.out.same (V':=wr) (G:=F) (fun _ h=>h) (fun j hj=>E.out.block j (hF j hj));obtain⟨q0,rfl⟩:∃q0,q=some ⟨q0,0,none⟩:=by
    rcases I.2 with ⟨_,e⟩|⟨g,ap,af,e,_⟩
    ·omega
    injection e with e1 U e3;exact⟨g,e1⟩
   obtain⟨⟨key,d⟩,X⟩:∃d,b[k]? = some d:=⟨b[k],List.getElem?_eq_getElem aj⟩
   obtain⟨l,r,w,rfl,am,an,hI⟩:=HI.out k key d X;have aq:wr.cell? ⟨q0,k*2,none⟩=some (.string ⟨l.toArray⟩):=by
    have:=I.cell (2*k) _ am;have e:(⟨q0,0,none⟩:Addr).add (2*k)=⟨q0,k*2,none⟩:=by by_cases h:2*k=0<;>simp only[Addr.add,h,Nat.zero_add,Nat.mul_comm k 2,if_true,if_false]
    rwa [e] at this
   have ar:wr.cell? ⟨q0,k*2+1,none⟩=some (.iface r w):=by
    have:=I.cell (2*k+1) _ an;have e:(⟨q0,0,none⟩:Addr).add (2*k+1)=⟨q0,k*2+1,none⟩:=by simp[Addr.add,Nat.mul_comm]
    rwa [e] at this
   have A:Hid ((b.take (k+1)).flatMap m=(b.take k).flatMap m++((qaj 3 l.length++l)++T d)):=by
    show _=_;rw[List.take_add_one,X,O.out];simp[qb7]
   have D:Hid (((bs++qaj 5 b.length)++(b.take k).flatMap m).length+((qaj 3 l.length++l)++T d).length<=999999999):=by
    show _<=_;have h1:=HL.out;have B:(b.flatMap m).length=((b.take (k+1)).flatMap m).length+((b.drop (k+1)).flatMap m).length:=by
     rw[<-List.length_append,<-List.flatMap_append,List.take_append_drop]
    rw[A.out] at B;simp only[List.length_append] at h1 B ⊢;omega
   have HV:Hid (Below f W (wr.alloc (.cells #[.string ⟨l.toArray⟩,.iface r w] 228))):=E.out.trans ((Below.refl f wr).alloc H.out.2.1 _);have cT:=qoT _ f wr.heap.size _ _ l (by have:=D.out;omega) (by have:=D.out;simp only[List.length_append] at this;omega) (qkc H.out (.cells #[.string ⟨l.toArray⟩,.iface r w] 228));have P:Hid ((wr.alloc (.cells #[.string ⟨l.toArray⟩,.iface r w] 228)).heap[wr.heap.size]? = some (.cells #[.string ⟨l.toArray⟩,.iface r w] 228)):=qac _ _;have HJ:=qaa hI
   go_wp2_with (first
    |(go_at_call 147;refine cT.mono ?_;rintro e w4 ⟨v4,rfl,h4,L⟩;obtain⟨o4,b4,a4,n4,c4,rfl⟩:=h4;have ad:Hid (Own w4 f (.slice a4 n4 c4) (((bs++qaj 5 b.length)++(b.take k).flatMap m)++(qaj 3 l.length++l))):=⟨o4,b4,_,_,_,rfl⟩;have N:=qaa (HV.out.trans L.1);have au:=qab (L.2.trans P.out) 0;have av:=qab (L.2.trans P.out) 1)
    |(go_at_call 121;refine(HJ.out w4 _ _ N.out ad.out (by have:=D.out;simp only[List.length_append] at this ⊢;omega)).mono ?_;rintro e w5 ⟨v5,rfl,h5,ah⟩;obtain⟨o5,b5,R,z,S,rfl⟩:=h5;have ae:Hid (Own w5 f (.slice R z S) ((((bs++qaj 5 b.length)++(b.take k).flatMap m)++(qaj 3 l.length++l))++T d)):=⟨o5,b5,_,_,_,rfl⟩;have ab:=qaa (N.out.trans ah)))
   go_roundg g
   case measure=>omega
   case rel=>exact⟨k+1,R,z,S,rfl,by go_num,by show _=_;have:=C.out;omega,by show Own _ _ _ _;rw[A.out,<-List.append_assoc,<-List.append_assoc];exact ae.out,ab⟩

def wrF (hB hL hM hT:Nat->List UInt8)(nt:Bool->List UInt8)(no:List UInt8)(nm:Int->List UInt8):Nat->DataW Unit->List UInt8
 |0,_=>[]
 |k+1,d=>match d with
  |.nil=>no
  |.lit (.bool b)=>nt b
  |.lit (.int .i64 z)=>nm z
  |.lit (.string l)=>hT l.length++l
  |.ptr (.lit (.string l))=>hB l.length++l
  |.agg ds=>hL ds.length++ds.flatMap (wrF hB hL hM hT nt no nm k)
  |.map es=>hM es.length++es.flatMap fun e=>(hT (qb7 e.1).length++qb7 e.1)++wrF hB hL hM hT nt no nm k e.2
  |_=>[]
def qs1 (b:Bool):List UInt8:=bif b then qaj 7 21 else qaj 7 20
def qsB (b:Bool):List UInt8:=bif b then [195] else [194]
def qaU:Nat->DataW Unit->List UInt8:=wrF (qaj 2) (qaj 4) (qaj 5) (qaj 3) qs1 (qaj 7 22) qhB
def qcV:Nat->DataW Unit->List UInt8:=wrF qb8 qbB qb2 qa2 qsB [192] qid
theorem qeE {α:Type}(f:α->List UInt8):∀(l:List α),(∀a,a∈l->1<=(f a).length)->l.length<=(l.flatMap f).length
 |[],_=>Nat.zero_le _
 |a::l,h=>by
  have d:=h a (List.mem_cons_self ..);have e:=qeE f l fun b c=>h b (List.mem_cons_of_mem _ c);rw[List.flatMap_cons,List.length_append,List.length_cons];omega
theorem qbn (s x:Nat):1<=(qaj s x).length:=by
 unfold qaj
 repeat' split
 all_goals simp
theorem qpY (z:Int):1<=(qhB z).length:=by
 unfold qhB;split<;>exact qbn _ _
theorem qod {hB hL hM hT:Nat->List UInt8}{nt:Bool->List UInt8}{no:List UInt8}{nm:Int->List UInt8}(a:∀x,1<=(hB x).length)(c:∀x,1<=(hL x).length)(e:∀x,1<=(hM x).length)(f:∀x,1<=(hT x).length)(j:∀b,1<=(nt b).length)(i:1<=no.length)(g:∀z,1<=(nm z).length):∀{k:Nat} {v:Value} {d:DataW Unit},qai k V F v d->1<=(wrF hB hL hM hT nt no nm k d).length
 |0,_,_,h=>h.elim
 |k+1,v,d,h=>by
  unfold qai at h;unfold wrF;split at h
  ·exact i
  ·exact j _
  ·exact g _
  ·rw[List.length_append];exact Nat.le_trans (f _) (Nat.le_add_right ..)
  ·rw[List.length_append];exact Nat.le_trans (a _) (Nat.le_add_right ..)
  ·rw[List.length_append];exact Nat.le_trans (c _) (Nat.le_add_right ..)
  ·rw[List.length_append];exact Nat.le_trans (e _) (Nat.le_add_right ..)
  exact h.elim
theorem qnG {k:Nat}{d:DataW Unit}(h:qai k V F v d):1<=(qaU k d).length:=qod (qbn 2) (qbn 4) (qbn 5) (qbn 3) (fun b=>by cases b;exact qbn 7 20;exact qbn 7 21) (qbn _ _) qpY h
theorem qmc:∀(k:Nat) (W:World) (c:Nat) (F:Nat->Prop) (x:Value) (d:DataW Unit),(∀j,F j->j<c)->qai k W F x d->qbQ W c x (qaU k d)
 |0,_,_,_,_,_,_,h=>h.elim
 |k+1,W0,c,F,x,d,hF,h0=>by
  intro W v g I n B;have h:=h0.same (fun _ h=>h) (fun j K=>I.block j (hF j K));have o:g.length<=999999999:=by omega
  have D:∀y a,qai k W F y a->qbQ W c y (qaU k a):=fun y a L=>qmc k W c F y a hF L;unfold qai at h;split at h
  ·subst h;exact qkS W c v g o n
  ·rename_i b
   subst h;cases b
   ·exact qga W c v g o n
   exact qgF W c v g o n
  ·obtain⟨rfl,f,m⟩:=h;exact qoW W c v g _ f m o n
  ·rename_i l
   subst h;have e:(qaU (k+1) (.lit (.string l))).length=_:=List.length_append;exact qrp W c v g l o (by omega) n
  ·rename_i l
   obtain⟨u,rfl,p⟩:=h;have e:(qaU (k+1) (.ptr (.lit (.string l)))).length=_:=List.length_append;exact qnV W c v u F hF g l o (by omega) p n
  ·rename_i ds
   obtain⟨u,r,rfl,p,s⟩:=h;have N:r.length=ds.length:=by have:=p.1;omega
   have at_:∀i,i<ds.length->∃x a,r[i]? = some x/\ds[i]? = some a/\qai k W F x a:=fun i q =>
    ⟨_,_,List.getElem?_eq_getElem (by omega),List.getElem?_eq_getElem q,s i _ _ (List.getElem?_eq_getElem (by omega)) (List.getElem?_eq_getElem q)⟩
   have J:=qeE (qaU k) ds fun a A=>by
    obtain⟨i,q,rfl⟩:=List.getElem_of_mem A;obtain⟨x,M,f,m,w⟩:=at_ i q;rw[List.getElem?_eq_getElem q] at m;injection m with m;rw[m];exact qnG w
   have e:(qaU (k+1) (.agg ds)).length=_+(ds.flatMap (qaU k)).length:=List.length_append;exact qqx (qaU k) W c v u F hF g ds r B (by omega) p (fun i x a f m=>D x a (s i x a f m)) (fun i x C=>by
    obtain⟨O,a,f,m,w⟩:=at_ i (by have:=ltL C;omega);rw[C] at f;injection f with f;rw[f];exact w.iface) n
  ·rename_i es
   obtain⟨u,r,rfl,p,s⟩:=h;have J:=qeE (fun e:Lit×DataW Unit=>(qaj 3 (qb7 e.1).length++qb7 e.1)++qaU k e.2) es fun a A=>by
    rw[List.length_append,List.length_append];have:=qbn 3 (qb7 a.1).length;omega
   have e:(qaU (k+1) (.map es)).length=_+(es.flatMap fun e:Lit×DataW Unit=>(qaj 3 (qb7 e.1).length++qb7 e.1)++qaU k e.2).length:=List.length_append;exact quo (qaU k) W c v u F hF g es r B (by omega) p (fun i key a f=>by
    obtain⟨l,x,E,G,H,z⟩:=s i key a f;obtain⟨t,y,rfl⟩:=z.iface;exact⟨l,t,y,E,G,H,D _ a z⟩) n
  exact h.elim

theorem qej (k:Nat)(W:World)(F:Nat->Prop)(x:Value)(d:DataW Unit)(hF:∀j,F j->j<W.heap.size)(h:qai k W F x d)(m:(qaU k d).length<=999999999):Calls prog 93 #[.int .i64 2,x] W fun e a=>∃b,e=.returned b/\Own a W.heap.size b (qaU k d)/\Below W.heap.size W a:=by
 have c:=qmc k W W.heap.size F x d hF h W _ [] bwR (qip W) (by simpa using m);obtain⟨t,y,rfl⟩:=h.iface;go_enter func93,ntmps93
 go_wp2_with (first
  |(go_at_call 121;refine c.mono ?_;rintro e r ⟨q,rfl,f,l⟩;obtain⟨g,i,n,p,o,rfl⟩:=f))
 go_ret;exact⟨_,rfl,⟨g,i,_,_,_,rfl⟩,l⟩

theorem qk9 (W:World)(b:Nat)(v:Value)(bs:List UInt8)(s:bs.length<=999999999)(h:Own W b v bs):Calls prog 120 #[v,.iface 187 (.agg #[])] W fun e g=>∃f,e=.returned f/\Own g b f (bs++[110,117,108,108])/\Below b W g:=by
 obtain⟨r,l,o,p,q⟩:=info_parts Tryz.infoU8;obtain⟨a,n,c,rfl⟩:=h.2.2;have d:=qaa h;have u:=qcx;have w:=qcf;have x:=qcN;have y:=qcO;have z:=qdq;have i:(⟨([110,117,108,108]:List UInt8).toArray⟩:ByteArray).size=4:=rfl;go_enter func120,ntmps120
 go_wp2_with (first
  |(at_builtin;refine wpList_append_own_string _ rfl _ _ 66 9 rfl b 5 r underlying66 underlying9 l o p q _ _ _ rfl d.out.1 ⟨[110,117,108,108].toArray⟩ rfl (by rw[i];unfold maxLen;omega) (by rw[i];omega) d.out.2.1 ?_;intro f A m k t;have j:=qaa (qaL d.out m k)))
 go_ret;exact⟨_,rfl,j.out⟩

end
section
open Go.RowKit
theorem qdh.of (h:qdh W)(j:∀k,k<W.heap.size->k<=2->V.heap[k]? = W.heap[k]?):qdh V:=by
 have a:∀(g off:Nat) (v:Value),g<=2->W.cell? ⟨g,off,none⟩=some v->V.cell? ⟨g,off,none⟩=some v:=fun g off v i c=>(World.cell?_of_block (w:=W) (j g (block_lt_of_cell c) i)).trans c;refine⟨fun u b=>a _ _ _ (by decide) (h.cb u b),fun u b => ?_⟩;obtain⟨d,e,f⟩:=h.pk u b;exact⟨a _ _ _ (by decide) d,a _ _ _ (by decide) e,a _ _ _ (by decide) f⟩
theorem qdh.lt (h:qdh W):2<W.heap.size:=block_lt_of_cell (h.pk 0 (by decide)).1
theorem qdh.below (h:qdh W)(a:Below W.heap.size W V):qdh V:=h.of fun k b _=>a.block k b
theorem qdh.but (h:qdh W)(a:But b W V)(e:2<b):qdh V:=h.of fun k c d=>a.block k c (by omega)

def qnt : String := "internal" ++ (String.singleton (Char.ofNat 47) ++ "strconv.uint64pow10")
def qiG (B:Nat)(w:World):Prop:=Lib.TabBelow prog B w qnt .u64 Lib.pow10Tab

theorem Own.mono {b':Nat}(h:Own W b v bs)(l:b'<=b):Own W b' v bs:=by
 obtain⟨⟨f,a⟩,k,i⟩:=h;refine⟨⟨f,?_⟩,by omega,i⟩;rcases a with a|⟨g,c,d,e,m,j⟩
 ·exact .inl a
 exact .inr ⟨g,c,d,e,by omega,j⟩
theorem qm4 (V:World)(t:TypeId)(y:Value)(d:List UInt8)(g:Calls prog 92 #[.iface t y] V fun e f=>e=.returned (.bool false)/\Below V.heap.size V f)(h:∀U,Below V.heap.size V U->Calls prog 93 #[.int .i64 1,.iface t y] U fun e a=>∃b,e=.returned b/\Own a V.heap.size b d/\Below V.heap.size U a):Calls prog 68 #[.int .i64 1,.iface t y] V fun e a=>∃b,e=.returned (.tuple #[b,.int .i64 0])/\Own a V.heap.size b d/\Below V.heap.size V a:=by
 go_enter func68,ntmps68
 go_wp2_with (first
  |(go_at_call 92;refine g.mono ?_;rintro e n ⟨rfl,c⟩;have i:=h n c)
  |(go_at_call 93;refine i.mono ?_;rintro e s ⟨r,rfl,j,m⟩;obtain⟨k,l,o,q,p,rfl⟩:=j))
 go_ret2
 exact⟨_,rfl,⟨k,l,_,_,_,rfl⟩,c.trans m⟩

end
section
open Go.RowKit Go.Shelf
theorem qn1 (s:ByteArray)(w:World)(d:s.size<=1000000):Calls prog 136 #[.string s] w fun e c=>e=.returned (.string s)/\Below w.heap.size w c:=by
 have a:=Tryz.stringslite_Clone s w (by omega);go_enter func136,ntmps136
 go_wp2_with (first
  |(go_at_call 161;refine a.mono ?_;clear a;rintro e f ⟨rfl,b⟩))
 go_ret;exact⟨rfl,b⟩

end
section
open Go.RowKit Go.Lib
def qc5 {α:Type}(T:α->List UInt8):List α->List UInt8
 |[]=>[]
 |d::ds=>T d++ds.flatMap fun e=>44::T e

end
end Go.Proofs.YtcokgepdckkjdaaGreatDoor
