import Derived.Test.YtpifimohecagoaaGreatDoorCards
import Derived.Test.YtpifimohecagoaaGreatDoorTie
import Derived.Carry
import Derived.Deep.DeepHandedRow
import Derived.Lib.LaidTab
import Derived.Test.YtpifimohecagoaaGreatDoorPq11
import Derived.Test.YtpifimohecagoaaGreatDoorPq12
set_option maxRecDepth 100000
set_option maxHeartbeats 8000000
namespace Go.Proofs.YtpifimohecagoaaGreatDoor
open Go.Proofs.Tryz
variable{P:Program}{ops:Array Oper}{o:Oper}{a:Act}{Q:Exit->Act->World->Prop}{V W W' w:World}{A base lo lo' n size:Nat}{cs xs:List Value}{sv v:Value}{l:List UInt8}{q:Aut}{pa:Option Addr}{es:List (List Value×Nat×Int×Int)}
section
open Go.ChangeShapes Go.WideShapes Go.ChangeAt Go.RowKit Go.Lib
theorem Tryz.own:ownKnob prog.godebug=none:=by kernel_rfl
theorem Tryz.laidOut:laidOutB prog=true:=by kernel_rfl
def qjo:Nat->DataW Unit->List Value
 |0,_=>[]
 |_+1,.lit (.int k z)=>[.int k z]
 |_+1,.lit (.string b)=>[.string ⟨b.toArray⟩]
 |n+1,.agg ds=>ds.flatMap (qjo n)
 |_+1,_=>[]
def qds(h:Array Obj)(g:Nat)(cs:Array Value):Array Obj:=h.modify g fun
 |.cells _ t frozen=>.cells cs t frozen
 |o=>o
def qxo(w0:World):World :=
 let h0:=qds w0.heap 7 (qjo 5 Rows.laid_math_bits_deBruijn32tab).toArray
 let h1:=qds h0 8 (qjo 5 Rows.laid_math_bits_deBruijn64tab).toArray
 let h2:=qds h1 6 (qjo 5 Rows.laid_internal_strconv_uint64pow10).toArray
 let h3:=qds h2 5 (qjo 5 Rows.laid_unicode_utf8_acceptRanges).toArray
 let h4:=qds h3 0 (qjo 5 Rows.laid_redact_reading_cborSorts).toArray
 let h5:=qds h4 1 (qjo 5 Rows.laid_redact_reading_packHeads).toArray
 let h6:=qds h5 2 (qjo 5 Rows.laid_redact_policy_signs).toArray
 let h7:=qds h6 4 (qjo 5 Rows.laid_unicode_utf8_first).toArray
 {w0 with heap:=h7}

end
section
open Go.RowKit Go.Lib
theorem qcD  : ∀w:World,(Instr.typeAssert (.iface 164 (.agg #[])) 82 217 true).run prog w=.ok (.tuple #[.bool false,.bool false]) w:=λw=>by kernel_rfl
theorem qct  : ∀w:World,(Instr.typeAssert (.iface 164 (.agg #[])) 82 219 true).run prog w=.ok (.tuple #[.int .i64 0,.bool false]) w:=λw=>by kernel_rfl
theorem qde  : ∀w:World,(Instr.typeAssert (.iface 164 (.agg #[])) 82 190 true).run prog w=.ok (.tuple #[.string ByteArray.empty,.bool false]) w:=λw=>by kernel_rfl
theorem qdZ  : ∀w:World,(Instr.typeAssert (.iface 164 (.agg #[])) 82 192 true).run prog w=.ok (.tuple #[.slice none 0 0,.bool false]) w:=λw=>by kernel_rfl
theorem qcV  : ∀w:World,(Instr.typeAssert (.iface 164 (.agg #[])) 82 194 true).run prog w=.ok (.tuple #[.slice none 0 0,.bool false]) w:=λw=>by kernel_rfl
theorem qdv  : ∀w:World,(Instr.typeAssert (.iface 164 (.agg #[])) 82 196 true).run prog w=.ok (.tuple #[.slice none 0 0,.bool false]) w:=λw=>by kernel_rfl
theorem qbA(b:Bool):∀w:World,(Instr.typeAssert (.iface 217 (.bool b)) 82 217 true).run prog w=.ok (.tuple #[.bool b,.bool true]) w:=λw=>by kernel_rfl
theorem qem(s:ByteArray):∀w:World,(Instr.typeAssert (.iface 190 (.string s)) 82 217 true).run prog w=.ok (.tuple #[.bool false,.bool false]) w:=λw=>by kernel_rfl
theorem qdx(s:ByteArray):∀w:World,(Instr.typeAssert (.iface 190 (.string s)) 82 219 true).run prog w=.ok (.tuple #[.int .i64 0,.bool false]) w:=λw=>by kernel_rfl
theorem qfe(s:ByteArray):∀w:World,(Instr.typeAssert (.iface 190 (.string s)) 82 190 true).run prog w=.ok (.tuple #[.string s,.bool true]) w:=λw=>by kernel_rfl
theorem qbX(a:Option Addr)(n c:Nat):∀w:World,(Instr.typeAssert (.iface 192 (.slice a n c)) 82 217 true).run prog w=.ok (.tuple #[.bool false,.bool false]) w:=λw=>by kernel_rfl
theorem qbK(a:Option Addr)(n c:Nat):∀w:World,(Instr.typeAssert (.iface 192 (.slice a n c)) 82 219 true).run prog w=.ok (.tuple #[.int .i64 0,.bool false]) w:=λw=>by kernel_rfl
theorem qco(a:Option Addr)(n c:Nat):∀w:World,(Instr.typeAssert (.iface 192 (.slice a n c)) 82 190 true).run prog w=.ok (.tuple #[.string ByteArray.empty,.bool false]) w:=λw=>by kernel_rfl
theorem qc7(a:Option Addr)(n c:Nat):∀w:World,(Instr.typeAssert (.iface 192 (.slice a n c)) 82 192 true).run prog w=.ok (.tuple #[.slice a n c,.bool true]) w:=λw=>by kernel_rfl
theorem qen(a:Option Addr)(n c:Nat):∀w:World,(Instr.typeAssert (.iface 194 (.slice a n c)) 82 217 true).run prog w=.ok (.tuple #[.bool false,.bool false]) w:=λw=>by kernel_rfl
theorem qdG(a:Option Addr)(n c:Nat):∀w:World,(Instr.typeAssert (.iface 194 (.slice a n c)) 82 219 true).run prog w=.ok (.tuple #[.int .i64 0,.bool false]) w:=λw=>by kernel_rfl
theorem qfc(a:Option Addr)(n c:Nat):∀w:World,(Instr.typeAssert (.iface 194 (.slice a n c)) 82 190 true).run prog w=.ok (.tuple #[.string ByteArray.empty,.bool false]) w:=λw=>by kernel_rfl
theorem qgL(a:Option Addr)(n c:Nat):∀w:World,(Instr.typeAssert (.iface 194 (.slice a n c)) 82 192 true).run prog w=.ok (.tuple #[.slice none 0 0,.bool false]) w:=λw=>by kernel_rfl
theorem qfd(a:Option Addr)(n c:Nat):∀w:World,(Instr.typeAssert (.iface 194 (.slice a n c)) 82 194 true).run prog w=.ok (.tuple #[.slice a n c,.bool true]) w:=λw=>by kernel_rfl
theorem qfh(a:Option Addr)(n c:Nat):∀w:World,(Instr.typeAssert (.iface 196 (.slice a n c)) 82 217 true).run prog w=.ok (.tuple #[.bool false,.bool false]) w:=λw=>by kernel_rfl
theorem qey(a:Option Addr)(n c:Nat):∀w:World,(Instr.typeAssert (.iface 196 (.slice a n c)) 82 219 true).run prog w=.ok (.tuple #[.int .i64 0,.bool false]) w:=λw=>by kernel_rfl
theorem qg0(a:Option Addr)(n c:Nat):∀w:World,(Instr.typeAssert (.iface 196 (.slice a n c)) 82 190 true).run prog w=.ok (.tuple #[.string ByteArray.empty,.bool false]) w:=λw=>by kernel_rfl
theorem qhM(a:Option Addr)(n c:Nat):∀w:World,(Instr.typeAssert (.iface 196 (.slice a n c)) 82 192 true).run prog w=.ok (.tuple #[.slice none 0 0,.bool false]) w:=λw=>by kernel_rfl
theorem qgD(a:Option Addr)(n c:Nat):∀w:World,(Instr.typeAssert (.iface 196 (.slice a n c)) 82 194 true).run prog w=.ok (.tuple #[.slice none 0 0,.bool false]) w:=λw=>by kernel_rfl
theorem qjl(a:Option Addr)(n c:Nat):∀w:World,(Instr.typeAssert (.iface 196 (.slice a n c)) 82 196 true).run prog w=.ok (.tuple #[.slice a n c,.bool true]) w:=λw=>by kernel_rfl
theorem qmg(W:World)(b:Nat)(v:Value)(bs:List UInt8)(A:bs.length<=999999999)(h:Own W b v bs):Calls prog 87 #[v,.iface 164 (.agg #[])] W λe g=>∃d,e=.returned d/\Own g b d (bs++[192])/\Below b W g:=by
 obtain⟨w,q,r,s,t⟩:=info_parts Tryz.infoU8;obtain⟨j,i,a,n,c,rfl⟩:=h;have x:Hid (Own W b (.slice a n c) bs):=⟨j,i,a,n,c,rfl⟩
 have f:=qab j;have C:=qcD;have D:=qct;have E:=qde;have F:=qdZ;have G:=qcV;have H:=qdv;go_enter func87,ntmps87
 go_wp2_with(first
  |(at_builtin;refine wpList_append_own _ rfl _ _ 35 rfl b 5 w (.int .u8 0) 1 1 underlying35 q r s t rfl (by decide) _ _ _ rfl (f.out.alloc _) ⟨W.heap.size,0,none⟩ 1 1 [.int .u8 192] rfl rfl (qag _ _ _) (λu l=>by simp at l;subst l;rfl) (by unfold maxLen;omega) (by omega) (by simp;omega) ?_;intro d m k p B;have o:Hid (Own m b d (bs++[192])/\Below b W m):=qa0 i f.out rfl k p;obtain⟨z,y,rfl⟩:=ownsRow_succ k))
 go_ret;exact⟨_,rfl,o.out⟩
theorem qhG(W:World)(b:Nat)(v:Value)(bs:List UInt8)(A:bs.length<=999999999)(h:Own W b v bs):Calls prog 87 #[v,.iface 217 (.bool true)] W λe g=>∃d,e=.returned d/\Own g b d (bs++[195])/\Below b W g:=by
 obtain⟨w,q,r,s,t⟩:=info_parts Tryz.infoU8;obtain⟨j,i,a,n,c,rfl⟩:=h;have x:Hid (Own W b (.slice a n c) bs):=⟨j,i,a,n,c,rfl⟩
 have f:=qab j;have C:=qbA true;go_enter func87,ntmps87
 go_wp2_with(first
  |(at_builtin;refine wpList_append_own _ rfl _ _ 35 rfl b 5 w (.int .u8 0) 1 1 underlying35 q r s t rfl (by decide) _ _ _ rfl (f.out.alloc _) ⟨W.heap.size,0,none⟩ 1 1 [.int .u8 195] rfl rfl (qag _ _ _) (λu l=>by simp at l;subst l;rfl) (by unfold maxLen;omega) (by omega) (by simp;omega) ?_;intro d m k p B;have o:Hid (Own m b d (bs++[195])/\Below b W m):=qa0 i f.out rfl k p;obtain⟨z,y,rfl⟩:=ownsRow_succ k))
 go_ret;exact⟨_,rfl,o.out⟩
theorem qgz(W:World)(b:Nat)(v:Value)(bs:List UInt8)(A:bs.length<=999999999)(h:Own W b v bs):Calls prog 87 #[v,.iface 217 (.bool false)] W λe g=>∃d,e=.returned d/\Own g b d (bs++[194])/\Below b W g:=by
 obtain⟨w,q,r,s,t⟩:=info_parts Tryz.infoU8;obtain⟨j,i,a,n,c,rfl⟩:=h;have x:Hid (Own W b (.slice a n c) bs):=⟨j,i,a,n,c,rfl⟩
 have f:=qab j;have C:=qbA false;go_enter func87,ntmps87
 go_wp2_with(first
  |(at_builtin;refine wpList_append_own _ rfl _ _ 35 rfl b 5 w (.int .u8 0) 1 1 underlying35 q r s t rfl (by decide) _ _ _ rfl (f.out.alloc _) ⟨W.heap.size,0,none⟩ 1 1 [.int .u8 194] rfl rfl (qag _ _ _) (λu l=>by simp at l;subst l;rfl) (by unfold maxLen;omega) (by omega) (by simp;omega) ?_;intro d m k p B;have o:Hid (Own m b d (bs++[194])/\Below b W m):=qa0 i f.out rfl k p;obtain⟨z,y,rfl⟩:=ownsRow_succ k))
 go_ret;exact⟨_,rfl,o.out⟩
theorem qsl(W:World)(b:Nat)(v:Value)(bs:List UInt8)(l:List UInt8)(q:bs.length<=999999999)(r:l.length<=999999999)(h:Own W b v bs):Calls prog 87 #[v,.iface 190 (.string ⟨l.toArray⟩)] W λe d=>∃g,e=.returned g/\Own d b g (bs++(qa1 l.length++l))/\Below b W d:=by
 obtain⟨A,w,x,y,z⟩:=info_parts Tryz.infoU8;obtain⟨f,p,a,n,c,rfl⟩:=h;have i:Hid (Own W b (.slice a n c) bs):=⟨f,p,a,n,c,rfl⟩
 have s:=qab f;have C:=qem ⟨l.toArray⟩;have D:=qdx ⟨l.toArray⟩;have E:=qfe ⟨l.toArray⟩;go_enter func87,ntmps87
 go_wp2_with(first
  |(go_at_call 111;refine(qla _ b _ bs l q r i.out).mono ?_;rintro e G ⟨F,rfl,j,o⟩;obtain⟨k,m,t,B,u,rfl⟩:=j))
 go_ret;exact⟨_,rfl,⟨k,m,_,_,_,rfl⟩,o⟩
theorem qlz(W:World)(b:Nat)(v:Value)(bs:List UInt8)(p:bs.length<=999999999)(h:Own W b v bs):Calls prog 86 #[v,.iface 164 (.agg #[])] W λe d=>∃g,e=.returned g/\Own d b g (bs++qaj 7 22)/\Below b W d:=by
 obtain⟨y,t,u,w,x⟩:=info_parts Tryz.infoU8;obtain⟨f,o,a,n,c,rfl⟩:=h;have i:Hid (Own W b (.slice a n c) bs):=⟨f,o,a,n,c,rfl⟩
 have q:=qab f;have A:=qcD;have B:=qct;have C:=qde;have D:=qdZ;have E:=qcV;have F:=qdv;go_enter func86,ntmps86
 go_wp2_with(first
  |(go_at_call 107;refine(qbw _ b _ bs 7 22 (by omega) (by omega) p i.out).mono ?_;rintro e H ⟨G,rfl,j,m⟩;obtain⟨k,l,r,z,s,rfl⟩:=j))
 go_ret;exact⟨_,rfl,⟨k,l,_,_,_,rfl⟩,m⟩
theorem qh4(W:World)(b:Nat)(v:Value)(bs:List UInt8)(p:bs.length<=999999999)(h:Own W b v bs):Calls prog 86 #[v,.iface 217 (.bool true)] W λe d=>∃g,e=.returned g/\Own d b g (bs++qaj 7 21)/\Below b W d:=by
 obtain⟨y,t,u,w,x⟩:=info_parts Tryz.infoU8;obtain⟨f,o,a,n,c,rfl⟩:=h;have i:Hid (Own W b (.slice a n c) bs):=⟨f,o,a,n,c,rfl⟩
 have q:=qab f;have A:=qbA true;go_enter func86,ntmps86
 go_wp2_with(first
  |(go_at_call 107;refine(qbw _ b _ bs 7 21 (by omega) (by omega) p i.out).mono ?_;rintro e C ⟨B,rfl,j,m⟩;obtain⟨k,l,r,z,s,rfl⟩:=j))
 go_ret;exact⟨_,rfl,⟨k,l,_,_,_,rfl⟩,m⟩
theorem qgB(W:World)(b:Nat)(v:Value)(bs:List UInt8)(p:bs.length<=999999999)(h:Own W b v bs):Calls prog 86 #[v,.iface 217 (.bool false)] W λe d=>∃g,e=.returned g/\Own d b g (bs++qaj 7 20)/\Below b W d:=by
 obtain⟨y,t,u,w,x⟩:=info_parts Tryz.infoU8;obtain⟨f,o,a,n,c,rfl⟩:=h;have i:Hid (Own W b (.slice a n c) bs):=⟨f,o,a,n,c,rfl⟩
 have q:=qab f;have A:=qbA false;go_enter func86,ntmps86
 go_wp2_with(first
  |(go_at_call 107;refine(qbw _ b _ bs 7 20 (by omega) (by omega) p i.out).mono ?_;rintro e C ⟨B,rfl,j,m⟩;obtain⟨k,l,r,z,s,rfl⟩:=j))
 go_ret;exact⟨_,rfl,⟨k,l,_,_,_,rfl⟩,m⟩
theorem qsZ(W:World)(b:Nat)(v:Value)(bs:List UInt8)(l:List UInt8)(q:bs.length<=999999999)(r:l.length<=999999999)(h:Own W b v bs):Calls prog 86 #[v,.iface 190 (.string ⟨l.toArray⟩)] W λe d=>∃g,e=.returned g/\Own d b g (bs++(qaj 3 l.length++l))/\Below b W d:=by
 obtain⟨A,w,x,y,z⟩:=info_parts Tryz.infoU8;obtain⟨f,p,a,n,c,rfl⟩:=h;have i:Hid (Own W b (.slice a n c) bs):=⟨f,p,a,n,c,rfl⟩
 have s:=qab f;have C:=qem ⟨l.toArray⟩;have D:=qdx ⟨l.toArray⟩;have E:=qfe ⟨l.toArray⟩;go_enter func86,ntmps86
 go_wp2_with(first
  |(go_at_call 108;refine(qk7 _ b _ bs l q r i.out).mono ?_;rintro e G ⟨F,rfl,j,o⟩;obtain⟨k,m,t,B,u,rfl⟩:=j))
 go_ret;exact⟨_,rfl,⟨k,m,_,_,_,rfl⟩,o⟩

theorem qdj(w:World)(t a b e:TypeId)(c:P.underlying t=some (.slice e))(d:P.underlying a=some (.slice e))(s:Value)(x:Value):(Builtin.append_ #[t,a] b #[s,x]).run P w=(Builtin.append_ #[t,t] b #[s,x]).run P w:=by
 cases s<;>simp[Builtin.append_,run_underlying c,run_underlying d]
theorem qc4(w:World){rest:List Oper}(I:o.guard=none)(s x:Operand)(t p:TypeId)(M:o.op=.call {callee:=.builtin .append,args:=#[s,x],argTypes:=#[t,p]})(f:Nat)(e:TypeId)(i:TypeInfo)(z:Value)(size l:Nat)(y:P.underlying t=some (.slice e))(T:P.underlying p=some (.slice e))(hi:P.info? e=some i)(V:i.zero=some z)(R:i.size=size)(G:i.bytes=l)(W:z.cells.size=size)(S:0<size)(v:Value)(n:Nat)(q:List Value)(O:a.eval s=v)(N:w.ownsRow f e size v n q)(k:Addr)(m c:Nat)(b:List Value)(U:a.eval x=.slice (some k) m c)(J:b.length=m*size)(L:∀j u,b[j]?=some u->w.cell? (k.add j)=some u)(A:∀u∈b,u.oneCell'=true)(D:n+m<=maxLen)(H:(n+m)*l<=140737488355328)(F:f<=w.heap.size)(h:∀g d,d.ownsRow f e size g (n+m) (q++b)->w.grownBy d v.ownBlock->wpList P ops Q rest (a.put o.dst g) d):wpList P ops Q (o::rest) a w:=by
 refine wpList_plain I λK E=>?_;obtain⟨g,d,r,B,C,_⟩:=run_append_own (P:=P) w f t o.type e i z size l y hi V R G W S v n q N k m c b J L A D H F;rw[<-qdj w t p o.type e y T]at r;unfold Oper.wp execOp;simp only[M,resolve,invoke,builtin,Sem.run_bind,Sem.run_pure,Result.andThen_ok,List.map_toArray,List.map_cons,List.map_nil,O,U,r];exact E _ _ (h g d B C)
theorem qcm{rest:List Oper}(k:o.guard=none)(s x:Operand)(t b:TypeId)(l:o.op=.call {callee:=.builtin .append,args:=#[s,x],argTypes:=#[t,b]})(c:Nat)(e:TypeId)(i:TypeInfo)(size:Nat)(f:P.underlying t=some (.slice e))(q:P.underlying b=some (.slice e))(hi:P.info? e=some i)(v:Value)(n:Nat)(g:List Value)(p:a.eval s=v)(m:w.ownsRow c e size v n g)(r:a.eval x=.slice none 0 0)(h:wpList P ops Q rest (a.put o.dst v) w):wpList P ops Q (o::rest) a w:=by
 refine wpList_plain k λK j=>?_;have d:=run_append_owned_none (P:=P) (w:=w) c t o.type e i size f hi v n g m;rw[<-qdj w t b o.type e f q]at d;unfold Oper.wp execOp;simp only[l,resolve,invoke,builtin,Sem.run_bind,Sem.run_pure,Result.andThen_ok,List.map_toArray,List.map_cons,List.map_nil,p,r,d];exact j _ _ h
theorem qb7.cell{t:TypeId}{F:Nat->Prop}{g cap:Nat}(h:qb7 V t size F (.slice (some ⟨g,0,none⟩) n cap) n xs):∀j u,xs[j]?=some u->V.cell? ((⟨g,0,none⟩:Addr).add j)=some u:=by
 obtain⟨p,b⟩:=h;rcases b with⟨e,_⟩|⟨k,f,i,e,hF,d,l,m,o,c⟩
 ·simp at e
 injection e with e1 e2 e3;injection e1 with e1;injection e1 with e1;subst e1;intro j u a;have e:(⟨g,0,none⟩:Addr).add j=⟨g,j,none⟩:=by by_cases h:j=0<;>simp[Addr.add,h]
 rw[e,cell_of_row _ _ _ _ _ _ d];rw[<-c,List.getElem?_take]at a;split at a
 ·simpa using a
 simp at a
theorem qf3{v':Value}{bs:List UInt8}(h:Own W base v bs)(c:W'.ownsRow base 5 1 v' (bs.length+l.length) (bs.map qax++l.map qax))(d:W.grownBy W' v.ownBlock):Own W' base v' (bs++l)/\Below base W W':=by
 obtain⟨f,b,_⟩:=h;have a:=qa3 (Below.refl base W) f d b;refine⟨⟨by rw[List.length_append,List.map_append];exact c,Nat.le_trans b a.size,?_⟩,a⟩;rcases c.2 with⟨e,_⟩|⟨g,i,j,e,_⟩
 ·exact⟨none,0,0,e⟩
 exact⟨_,_,_,e⟩
theorem qrE(x k:Nat):(beF x k).length=k:=by induction k with|zero=>rfl|succ k a=>rw[beF,List.length_cons,a]
theorem qox(s x:Nat):(qaj s x).length<=9:=by
 unfold qaj
 repeat' split
 all_goals simp[qrE]
theorem qoB(x:Nat):(qbu x).length<=9:=by
 unfold qbu
 repeat' split
 all_goals simp[qrE]
theorem qrs(W:World)(d:Nat)(v u:Value)(F:Nat->Prop)(hF:∀k,F k->k<d)(bs l:List UInt8)(M:bs.length<=999999999)(ad:l.length<=999999999)(r:qb7 W 5 1 F u l.length (l.map qax))(h:Own W d v bs):Calls prog 86 #[v,.iface 192 u] W λe j=>∃i,e=.returned i/\Own j d i (bs++(qaj 2 l.length++l))/\Below d W j:=by
 obtain⟨E,C,Q,R,S⟩:=info_parts Tryz.infoU8;obtain⟨O,J,a,n,c,rfl⟩:=h;have H:Hid (Own W d (.slice a n c) bs):=⟨O,J,a,n,c,rfl⟩
 have w:Calls prog 107 #[.slice a n c,.int .u8 2,.int .u64 l.length] W λe j=>∃i,e=.returned i/\Own j d i (bs++qaj 2 l.length)/\Below d W j:=qbw W d (.slice a n c) bs 2 l.length (by decide) (by omega) M H.out;have K:(qaj 2 l.length).length<=9:=qox _ _;rcases r.2 with⟨rfl,D⟩|⟨g,o,Z,rfl,aa,ab,ac⟩
 ·have N:=List.eq_nil_of_length_eq_zero D;rw[D]at w K;rw[N];have T:=qbX none 0 0;have U:=qbK none 0 0;have V:=qco none 0 0;have X:=qc7 none 0 0;go_enter func86,ntmps86
  go_wp2_with(first
   |(go_at_call 107;refine w.mono ?_;rintro e B ⟨Y,rfl,x,y⟩;obtain⟨A,t,m,p,c2,rfl⟩:=x;have f:Hid (Own B d (.slice m p c2) (bs++qaj 2 0)):=⟨A,t,_,_,_,rfl⟩;have q:=qab y)
   |(at_builtin;refine qcm rfl _ _ 35 192 rfl d 5 E 1 underlying35 underlying192 C (.slice m p c2) _ _ rfl f.out.1 rfl ?_))
  go_ret;rw[List.append_nil];exact⟨_,rfl,f.out,q.out⟩
 have I:=qab r;have T:=qbX (some ⟨g,0,none⟩) l.length o;have U:=qbK (some ⟨g,0,none⟩) l.length o;have V:=qco (some ⟨g,0,none⟩) l.length o;have X:=qc7 (some ⟨g,0,none⟩) l.length o;go_enter func86,ntmps86
 go_wp2_with(first
  |(go_at_call 107;refine w.mono ?_;rintro e B ⟨Y,rfl,x,y⟩;obtain⟨A,t,m,p,c2,rfl⟩:=x;have f:Hid (Own B d (.slice m p c2) (bs++qaj 2 l.length)):=⟨A,t,_,_,_,rfl⟩;have q:=qab y)
  |(at_builtin;refine qc4 _ rfl _ _ 35 192 rfl d 5 E (.int .u8 0) 1 1 underlying35 underlying192 C Q R S rfl (by decide) (.slice m p c2) _ _ rfl f.out.1 ⟨g,0,none⟩ l.length o (l.map qax) rfl (by simp) (I.out.same (G:=F) (λk z=>z) (λk z=>q.out.block k (hF k z))).cell (λu r=>by obtain⟨b,_,rfl⟩:=List.mem_map.mp r;rfl) (by rw[List.length_append];unfold maxLen;omega) (by rw[List.length_append];omega) f.out.2.1 ?_;intro i w5 P L;have s:=qab (qf3 f.out P L)))
 go_ret;rw[List.append_assoc]at s;exact⟨_,rfl,s.out.1,q.out.trans s.out.2⟩
theorem qqC(W:World)(d:Nat)(v u:Value)(F:Nat->Prop)(hF:∀k,F k->k<d)(bs l:List UInt8)(M:bs.length<=999999999)(ad:l.length<=999999999)(p:qb7 W 5 1 F u l.length (l.map qax))(h:Own W d v bs):Calls prog 87 #[v,.iface 192 u] W λe B=>∃z,e=.returned z/\Own B d z (bs++(qbu l.length++l))/\Below d W B:=by
 obtain⟨E,C,Q,R,S⟩:=info_parts Tryz.infoU8;obtain⟨O,J,a,n,c,rfl⟩:=h;have H:Hid (Own W d (.slice a n c) bs):=⟨O,J,a,n,c,rfl⟩
 have s:=qoj W d (.slice a n c) bs l.length (by omega) M H.out;have K:(qbu l.length).length<=9:=qoB _;rcases p.2 with⟨rfl,D⟩|⟨g,j,Z,rfl,aa,ab,ac⟩
 ·have N:=List.eq_nil_of_length_eq_zero D;rw[D]at s K;rw[N];have T:=qbX none 0 0;have U:=qbK none 0 0;have V:=qco none 0 0;have X:=qc7 none 0 0;go_enter func87,ntmps87
  go_wp2_with(first
   |(go_at_call 112;refine s.mono ?_;rintro e A ⟨Y,rfl,t,w⟩;obtain⟨y,r,i,m,c2,rfl⟩:=t;have f:Hid (Own A d (.slice i m c2) (bs++qbu 0)):=⟨y,r,_,_,_,rfl⟩;have o:=qab w)
   |(at_builtin;refine qcm rfl _ _ 35 192 rfl d 5 E 1 underlying35 underlying192 C (.slice i m c2) _ _ rfl f.out.1 rfl ?_))
  go_ret;rw[List.append_nil];exact⟨_,rfl,f.out,o.out⟩
 have I:=qab p;have T:=qbX (some ⟨g,0,none⟩) l.length j;have U:=qbK (some ⟨g,0,none⟩) l.length j;have V:=qco (some ⟨g,0,none⟩) l.length j;have X:=qc7 (some ⟨g,0,none⟩) l.length j;go_enter func87,ntmps87
 go_wp2_with(first
  |(go_at_call 112;refine s.mono ?_;rintro e A ⟨Y,rfl,t,w⟩;obtain⟨y,r,i,m,c2,rfl⟩:=t;have f:Hid (Own A d (.slice i m c2) (bs++qbu l.length)):=⟨y,r,_,_,_,rfl⟩;have o:=qab w)
  |(at_builtin;refine qc4 _ rfl _ _ 35 192 rfl d 5 E (.int .u8 0) 1 1 underlying35 underlying192 C Q R S rfl (by decide) (.slice i m c2) _ _ rfl f.out.1 ⟨g,0,none⟩ l.length j (l.map qax) rfl (by simp) (I.out.same (G:=F) (λk x=>x) (λk x=>o.out.block k (hF k x))).cell (λu p=>by obtain⟨b,_,rfl⟩:=List.mem_map.mp p;rfl) (by rw[List.length_append];unfold maxLen;omega) (by rw[List.length_append];omega) f.out.2.1 ?_;intro z w5 P L;have q:=qab (qf3 f.out P L)))
 go_ret;rw[List.append_assoc]at q;exact⟨_,rfl,q.out.1,o.out.trans q.out.2⟩

def qcd(W:World)(base:Nat)(x:Value)(ys:List UInt8):Prop:=∀(V:World) (v:Value) (bs:List UInt8),Below base W V->Own V base v bs->bs.length+ys.length<=999999999->Calls prog 86 #[v,x] V λe W'=>∃v',e=.returned v'/\Own W' base v' (bs++ys)/\Below base V W'
theorem qsr(T:DataW Unit->List UInt8)(W:World)(f:Nat)(v u:Value)(F:Nat->Prop)(hF:∀k,F k->k<f)(bs:List UInt8)(b:List (DataW Unit))(m:List Value)(hl:bs.length+((qaj 4 b.length)++b.flatMap T).length<=999999999)(hn:b.length<=999999999)(P:qb7 W 82 1 F u b.length m)(af:∀(i:Nat) (x:Value) (d:DataW Unit),m[i]?=some x->b[i]?=some d->qcd W f x (T d))(ae:∀(i:Nat) (x:Value),m[i]?=some x->∃aj y,x=.iface aj y)(h:Own W f v bs):Calls prog 86 #[v,.iface 194 u] W λe o=>∃p,e=.returned p/\Own o f p (bs++(qaj 4 b.length++b.flatMap T))/\Below f W o:=by
 have ah:bs.length<=999999999:=by omega
 obtain⟨ho,hb,a,n,c,rfl⟩:=h;have aa:Hid (Own W f (.slice a n c) bs):=⟨ho,hb,a,n,c,rfl⟩
 have cH:Calls prog 107 #[.slice a n c,.int .u8 4,.int .u64 b.length] W λe o=>∃p,e=.returned p/\Own o f p (bs++qaj 4 b.length)/\Below f W o:=qbw W f (.slice a n c) bs 4 b.length (by decide) (by omega) ah aa.out;obtain⟨q,l,rfl⟩:∃q l,u=.slice q b.length l:=by
  rcases P.2 with⟨e,M⟩|⟨g,l,ab,e,_⟩
  ·exact⟨none,0,by rw[e,M]⟩
  exact⟨_,_,e⟩
 have HU:=qab P;have Y:=qab af;have Z:=qab hl;have X:=qab ae;have an:=qen q b.length l;have ao:=qdG q b.length l;have ap:=qfc q b.length l;have aq:=qgL q b.length l;have ar:=qfd q b.length l;go_enter func86,ntmps86
 go_wp2_with(first
  |(go_at_call 107;refine cH.mono ?_;rintro e w2 ⟨v2,rfl,w,ac⟩;obtain⟨o2,b2,J,Q,c2,rfl⟩:=w;have t:Hid (Own w2 f (.slice J Q c2) (bs++qaj 4 b.length)):=⟨o2,b2,_,_,_,rfl⟩;have U:=qab ac))
 go_loopg[0,64,11] b.length (λg y ak x wr=>∃(k:Nat) (C:Option Addr) (H D:Nat),y=.slice C H D/\ak=.int .i64 k/\Hid (k+g=b.length)/\Hid (Own wr f (.slice C H D) ((bs++qaj 4 b.length)++(b.take k).flatMap T))/\Hid (Below f W wr))
 case atStart=>exact⟨0,J,Q,c2,rfl,rfl,by show _=_;omega,by simpa using t,U⟩
 case round =>
  obtain⟨k,C,H,D,rfl,rfl,A,I,r⟩:=hrel
  cases gk with
  |zero =>
   have ai:¬(k:Int)<b.length:=by have:=A.out;omega
   have s:Hid (b.take k=b):=by show _=_;exact List.take_of_length_le (by have:=A.out;omega)
   go_wp2;go_ret;have N:=I.out;rw[s.out,List.append_assoc]at N;exact⟨_,rfl,N,r.out⟩
  |succ g =>
   have ag:k<b.length:=by have:=A.out;omega
   have ai:(k:Int)<b.length:=by omega
   have B:=HU.out.same (V':=wr) (G:=F) (λ_ h=>h) (λj hj=>r.out.block j (hF j hj));obtain⟨q0,rfl⟩:∃q0,q=some ⟨q0,0,none⟩:=by
    rcases B.2 with⟨_,e⟩|⟨g,al,ab,e,_⟩
    ·omega
    injection e with e1 M e3;exact⟨g,e1⟩
   have am:m.length=b.length:=by have:=B.1;omega
   obtain⟨x,E⟩:∃x,m[k]?=some x:=⟨m[k],List.getElem?_eq_getElem (by omega)⟩
   obtain⟨d,O⟩:∃d,b[k]?=some d:=⟨b[k],List.getElem?_eq_getElem ag⟩
   obtain⟨tx,yx,rfl⟩:=X.out k x E;have hc:wr.cell? ⟨q0,k,none⟩=some (.iface tx yx):=by
    have:=B.cell k _ E;have e:(⟨q0,0,none⟩:Addr).add k=⟨q0,k,none⟩:=by by_cases h:k=0<;>simp[Addr.add,h]
    rwa[e]at this
   have s:Hid ((b.take (k+1)).flatMap T=(b.take k).flatMap T++T d):=by
    show _=_;rw[List.take_add_one,O];simp
   have S:Hid (((bs++qaj 4 b.length)++(b.take k).flatMap T).length+(T d).length<=999999999):=by
    show _<=_;have h1:=Z.out;have w:(b.flatMap T).length=((b.take (k+1)).flatMap T).length+((b.drop (k+1)).flatMap T).length:=by
     rw[<-List.length_append,<-List.flatMap_append,List.take_append_drop]
    rw[s.out]at w;simp only[List.length_append]at h1 w ⊢;omega
   have cI:=Y.out k _ d E O wr _ _ r.out I.out S.out
   go_wp2_with(first
    |(go_at_call 86;refine cI.mono ?_;rintro e w4 ⟨v4,rfl,h4,ad⟩;obtain⟨o4,b4,K,R,L,rfl⟩:=h4;have z:Hid (Own w4 f (.slice K R L) (((bs++qaj 4 b.length)++(b.take k).flatMap T)++T d)):=⟨o4,b4,_,_,_,rfl⟩;have V:=qab (r.out.trans ad)))
   go_roundg g
   case measure=>omega
   case rel=>exact⟨k+1,K,R,L,rfl,by go_num,by show _=_;have:=A.out;omega,by show Own _ _ _ _;rw[s.out,<-List.append_assoc];exact z.out,V⟩
def qcc(W:World)(base:Nat)(x:Value)(ys:List UInt8):Prop:=∀(V:World) (v:Value) (bs:List UInt8),Below base W V->Own V base v bs->bs.length+ys.length<=999999999->Calls prog 87 #[v,x] V λe W'=>∃v',e=.returned v'/\Own W' base v' (bs++ys)/\Below base V W'
theorem qti(T:DataW Unit->List UInt8)(W:World)(f:Nat)(v u:Value)(F:Nat->Prop)(hF:∀k,F k->k<f)(bs:List UInt8)(b:List (DataW Unit))(m:List Value)(hl:bs.length+((qbp b.length)++b.flatMap T).length<=999999999)(hn:b.length<=999999999)(O:qb7 W 82 1 F u b.length m)(af:∀(i:Nat) (x:Value) (d:DataW Unit),m[i]?=some x->b[i]?=some d->qcc W f x (T d))(ae:∀(i:Nat) (x:Value),m[i]?=some x->∃aj y,x=.iface aj y)(h:Own W f v bs):Calls prog 87 #[v,.iface 194 u] W λe H=>∃R,e=.returned R/\Own H f R (bs++(qbp b.length++b.flatMap T))/\Below f W H:=by
 have ah:bs.length<=999999999:=by omega
 obtain⟨ho,hb,a,n,c,rfl⟩:=h;have aa:Hid (Own W f (.slice a n c) bs):=⟨ho,hb,a,n,c,rfl⟩
 have cH:=qnV W f (.slice a n c) bs b.length (by omega) ah aa.out;obtain⟨q,l,rfl⟩:∃q l,u=.slice q b.length l:=by
  rcases O.2 with⟨e,L⟩|⟨g,l,ab,e,_⟩
  ·exact⟨none,0,by rw[e,L]⟩
  exact⟨_,_,e⟩
 have HU:=qab O;have Y:=qab af;have Z:=qab hl;have X:=qab ae;have an:=qen q b.length l;have ao:=qdG q b.length l;have ap:=qfc q b.length l;have aq:=qgL q b.length l;have ar:=qfd q b.length l;go_enter func87,ntmps87
 go_wp2_with(first
  |(go_at_call 113;refine cH.mono ?_;rintro e w2 ⟨v2,rfl,r,ac⟩;obtain⟨o2,b2,I,P,c2,rfl⟩:=r;have t:Hid (Own w2 f (.slice I P c2) (bs++qbp b.length)):=⟨o2,b2,_,_,_,rfl⟩;have U:=qab ac))
 go_loopg[0,64,11] b.length (λg y ak x wr=>∃(k:Nat) (A:Option Addr) (D B:Nat),y=.slice A D B/\ak=.int .i64 k/\Hid (k+g=b.length)/\Hid (Own wr f (.slice A D B) ((bs++qbp b.length)++(b.take k).flatMap T))/\Hid (Below f W wr))
 case atStart=>exact⟨0,I,P,c2,rfl,rfl,by show _=_;omega,by simpa using t,U⟩
 case round =>
  obtain⟨k,A,D,B,rfl,rfl,s,E,o⟩:=hrel
  cases gk with
  |zero =>
   have ai:¬(k:Int)<b.length:=by have:=s.out;omega
   have p:Hid (b.take k=b):=by show _=_;exact List.take_of_length_le (by have:=s.out;omega)
   go_wp2;go_ret;have M:=E.out;rw[p.out,List.append_assoc]at M;exact⟨_,rfl,M,o.out⟩
  |succ g =>
   have ag:k<b.length:=by have:=s.out;omega
   have ai:(k:Int)<b.length:=by omega
   have w:=HU.out.same (V':=wr) (G:=F) (λ_ h=>h) (λj hj=>o.out.block j (hF j hj));obtain⟨q0,rfl⟩:∃q0,q=some ⟨q0,0,none⟩:=by
    rcases w.2 with⟨_,e⟩|⟨g,al,ab,e,_⟩
    ·omega
    injection e with e1 L e3;exact⟨g,e1⟩
   have am:m.length=b.length:=by have:=w.1;omega
   obtain⟨x,C⟩:∃x,m[k]?=some x:=⟨m[k],List.getElem?_eq_getElem (by omega)⟩
   obtain⟨d,N⟩:∃d,b[k]?=some d:=⟨b[k],List.getElem?_eq_getElem ag⟩
   obtain⟨tx,yx,rfl⟩:=X.out k x C;have hc:wr.cell? ⟨q0,k,none⟩=some (.iface tx yx):=by
    have:=w.cell k _ C;have e:(⟨q0,0,none⟩:Addr).add k=⟨q0,k,none⟩:=by by_cases h:k=0<;>simp[Addr.add,h]
    rwa[e]at this
   have p:Hid ((b.take (k+1)).flatMap T=(b.take k).flatMap T++T d):=by
    show _=_;rw[List.take_add_one,N];simp
   have S:Hid (((bs++qbp b.length)++(b.take k).flatMap T).length+(T d).length<=999999999):=by
    show _<=_;have h1:=Z.out;have r:(b.flatMap T).length=((b.take (k+1)).flatMap T).length+((b.drop (k+1)).flatMap T).length:=by
     rw[<-List.length_append,<-List.flatMap_append,List.take_append_drop]
    rw[p.out]at r;simp only[List.length_append]at h1 r ⊢;omega
   have cI:=Y.out k _ d C N wr _ _ o.out E.out S.out
   go_wp2_with(first
    |(go_at_call 87;refine cI.mono ?_;rintro e w4 ⟨v4,rfl,h4,ad⟩;obtain⟨o4,b4,J,Q,K,rfl⟩:=h4;have z:Hid (Own w4 f (.slice J Q K) (((bs++qbp b.length)++(b.take k).flatMap T)++T d)):=⟨o4,b4,_,_,_,rfl⟩;have V:=qab (o.out.trans ad)))
   go_roundg g
   case measure=>omega
   case rel=>exact⟨k+1,J,Q,K,rfl,by go_num,by show _=_;have:=s.out;omega,by show Own _ _ _ _;rw[p.out,<-List.append_assoc];exact z.out,V⟩

def qdu:Nat->DataW Unit->Bool
 |0,_=>false
 |k+1,d=>match d with
  |.ptr (.lit (.string _))=>true
  |.agg ds=>ds.any (qdu k)
  |.map es=>es.any λe=>qdu k e.2
  |_=>false
theorem qhE  : ∀w:World,(Instr.typeAssert (.iface 164 (.agg #[])) 82 192 true).run prog w=.ok (.tuple #[.slice none 0 0,.bool false]) w:=λw=>by kernel_rfl
theorem qeE  : ∀w:World,(Instr.typeAssert (.iface 164 (.agg #[])) 82 194 true).run prog w=.ok (.tuple #[.slice none 0 0,.bool false]) w:=λw=>by kernel_rfl
theorem qfz  : ∀w:World,(Instr.typeAssert (.iface 164 (.agg #[])) 82 196 true).run prog w=.ok (.tuple #[.slice none 0 0,.bool false]) w:=λw=>by kernel_rfl
theorem qkW(b:Bool):∀w:World,(Instr.typeAssert (.iface 217 (.bool b)) 82 192 true).run prog w=.ok (.tuple #[.slice none 0 0,.bool false]) w:=λw=>by kernel_rfl
theorem qgv(b:Bool):∀w:World,(Instr.typeAssert (.iface 217 (.bool b)) 82 194 true).run prog w=.ok (.tuple #[.slice none 0 0,.bool false]) w:=λw=>by kernel_rfl
theorem qhO(b:Bool):∀w:World,(Instr.typeAssert (.iface 217 (.bool b)) 82 196 true).run prog w=.ok (.tuple #[.slice none 0 0,.bool false]) w:=λw=>by kernel_rfl
theorem qiU(z:Int):∀w:World,(Instr.typeAssert (.iface 219 (.int .i64 z)) 82 192 true).run prog w=.ok (.tuple #[.slice none 0 0,.bool false]) w:=λw=>by kernel_rfl
theorem qfI(z:Int):∀w:World,(Instr.typeAssert (.iface 219 (.int .i64 z)) 82 194 true).run prog w=.ok (.tuple #[.slice none 0 0,.bool false]) w:=λw=>by kernel_rfl
theorem qhv(z:Int):∀w:World,(Instr.typeAssert (.iface 219 (.int .i64 z)) 82 196 true).run prog w=.ok (.tuple #[.slice none 0 0,.bool false]) w:=λw=>by kernel_rfl
theorem qmc(s:ByteArray):∀w:World,(Instr.typeAssert (.iface 190 (.string s)) 82 192 true).run prog w=.ok (.tuple #[.slice none 0 0,.bool false]) w:=λw=>by kernel_rfl
theorem qik(s:ByteArray):∀w:World,(Instr.typeAssert (.iface 190 (.string s)) 82 194 true).run prog w=.ok (.tuple #[.slice none 0 0,.bool false]) w:=λw=>by kernel_rfl
theorem qlb(s:ByteArray):∀w:World,(Instr.typeAssert (.iface 190 (.string s)) 82 196 true).run prog w=.ok (.tuple #[.slice none 0 0,.bool false]) w:=λw=>by kernel_rfl
theorem qjO(a:Option Addr)(n c:Nat):∀w:World,(Instr.typeAssert (.iface 192 (.slice a n c)) 82 192 true).run prog w=.ok (.tuple #[.slice a n c,.bool true]) w:=λw=>by kernel_rfl
theorem qls(a:Option Addr)(n c:Nat):∀w:World,(Instr.typeAssert (.iface 194 (.slice a n c)) 82 192 true).run prog w=.ok (.tuple #[.slice none 0 0,.bool false]) w:=λw=>by kernel_rfl
theorem qhV(a:Option Addr)(n c:Nat):∀w:World,(Instr.typeAssert (.iface 194 (.slice a n c)) 82 194 true).run prog w=.ok (.tuple #[.slice a n c,.bool true]) w:=λw=>by kernel_rfl
theorem qoc(a:Option Addr)(n c:Nat):∀w:World,(Instr.typeAssert (.iface 196 (.slice a n c)) 82 192 true).run prog w=.ok (.tuple #[.slice none 0 0,.bool false]) w:=λw=>by kernel_rfl
theorem qkM(a:Option Addr)(n c:Nat):∀w:World,(Instr.typeAssert (.iface 196 (.slice a n c)) 82 194 true).run prog w=.ok (.tuple #[.slice none 0 0,.bool false]) w:=λw=>by kernel_rfl
theorem qmP(a:Option Addr)(n c:Nat):∀w:World,(Instr.typeAssert (.iface 196 (.slice a n c)) 82 196 true).run prog w=.ok (.tuple #[.slice a n c,.bool true]) w:=λw=>by kernel_rfl
theorem qoq(W:World):Calls prog 68 #[.iface 164 (.agg #[])] W λe a=>e=.returned (.bool false)/\Below W.heap.size W a:=by
 have b:=qhE;have c:=qeE;have d:=qfz;go_enter func68,ntmps68;go_wp2;go_ret;exact⟨rfl,Below.refl _ _⟩
theorem qs6(W:World)(b:Bool):Calls prog 68 #[.iface 217 (.bool b)] W λe a=>e=.returned (.bool false)/\Below W.heap.size W a:=by
 have c:=qkW b;have d:=qgv b;have f:=qhO b;go_enter func68,ntmps68;go_wp2;go_ret;exact⟨rfl,Below.refl _ _⟩
theorem qqb(W:World)(z:Int):Calls prog 68 #[.iface 219 (.int .i64 z)] W λe a=>e=.returned (.bool false)/\Below W.heap.size W a:=by
 have b:=qiU z;have c:=qfI z;have d:=qhv z;go_enter func68,ntmps68;go_wp2;go_ret;exact⟨rfl,Below.refl _ _⟩
theorem qvW(W:World)(s:ByteArray):Calls prog 68 #[.iface 190 (.string s)] W λe a=>e=.returned (.bool false)/\Below W.heap.size W a:=by
 have b:=qmc s;have c:=qik s;have d:=qlb s;go_enter func68,ntmps68;go_wp2;go_ret;exact⟨rfl,Below.refl _ _⟩
theorem qnb(W:World)(a:Option Addr)(n c:Nat):Calls prog 68 #[.iface 192 (.slice a n c)] W λe b=>e=.returned (.bool true)/\Below W.heap.size W b:=by
 have d:=qjO a n c;go_enter func68,ntmps68;go_wp2;go_ret;exact⟨rfl,Below.refl _ _⟩
theorem qnx{α:Type}(T:α->Bool)(l:List α)(k:Nat)(d:α)(a:l[k]?=some d):(l.take (k+1)).any T=((l.take k).any T||T d):=by
 rw[List.take_add_one,a];simp
theorem qr7{α:Type}(T:α->Bool)(l:List α)(k:Nat)(d:α)(a:l[k]?=some d)(h:T d=true):l.any T=true:=List.any_eq_true.2 ⟨d,List.mem_of_getElem? a,h⟩
def qv7(W:World)(x:Value)(r:Bool):Prop:=∀V,Below W.heap.size W V->Calls prog 68 #[x] V λe W'=>e=.returned (.bool r)/\Below V.heap.size V W'
theorem qdJ{A:World}(a:Below A.heap.size A V)(b:Below V.heap.size V W'):Below A.heap.size A W':=a.trans (b.mono a.size)
theorem qvG(T:DataW Unit->Bool)(W:World)(u:Value)(F:Nat->Prop)(hF:∀k,F k->k<W.heap.size)(a:List (DataW Unit))(b:List Value)(E:qb7 W 82 1 F u a.length b)(S:∀(i:Nat) (x:Value) (d:DataW Unit),b[i]?=some x->a[i]?=some d->qv7 W x (T d))(R:∀(i:Nat) (x:Value),b[i]?=some x->∃t y,x=.iface t y):Calls prog 68 #[.iface 194 u] W λe N=>e=.returned (.bool (a.any T))/\Below W.heap.size W N:=by
 obtain⟨q,f,rfl,Y⟩:∃q f,u=.slice q a.length f/\a.length<=maxLen:=by
  rcases E.2 with⟨e,w⟩|⟨g,f,O,e,_,_,P,Q,_⟩
  ·exact⟨none,0,by rw[e,w],by rw[w];decide⟩
  exact⟨_,_,e,Nat.le_trans P Q⟩
 unfold maxLen at Y;have L:=qab E;have I:=qab S;have H:=qab R;obtain⟨r,v⟩:∃r,Hid (a.any T=r):=⟨_,show _=_ from rfl⟩
 rw[v.out];have ac:=qls q a.length f;have ad:=qhV q a.length f;go_enter func68,ntmps68;go_wp2
 go_loopg[19,6] a.length (λg z x wr=>∃(k:Nat),z=.int .i64 k/\Hid (k+g=a.length)/\Hid ((a.take k).any T=false)/\Hid (Below W.heap.size W wr))
 case atStart=>exact⟨0,rfl,by show _=_;omega,by show _=_;simp,Below.refl _ _⟩
 case round =>
  obtain⟨k,rfl,n,D,c⟩:=hrel
  cases gk with
  |zero =>
   have X:¬(k:Int)<a.length:=by have:=n.out;omega
   have K:Hid (r=false):=by
    show _=_;rw[<-v.out];have h:=D.out;rwa[List.take_of_length_le (by have:=n.out;omega)]at h
   go_wp2;go_ret;rw[K.out];exact⟨rfl,c.out⟩
  |succ g =>
   have V:k<a.length:=by have:=n.out;omega
   have X:(k:Int)<a.length:=by omega
   have s:=L.out.same (V':=wr) (G:=F) (λ_ h=>h) (λj U=>c.out.block j (hF j U));obtain⟨q0,rfl⟩:∃q0,q=some ⟨q0,0,none⟩:=by
    rcases s.2 with⟨_,e⟩|⟨g,aa,O,e,_⟩
    ·omega
    injection e with e1 w e3;exact⟨g,e1⟩
   have ab:b.length=a.length:=by have:=s.1;omega
   obtain⟨x,C⟩:∃x,b[k]?=some x:=⟨b[k],List.getElem?_eq_getElem (by omega)⟩
   obtain⟨d,B⟩:∃d,a[k]?=some d:=⟨a[k],List.getElem?_eq_getElem V⟩
   obtain⟨Z,yx,rfl⟩:=H.out k x C;have hc:wr.cell? ⟨q0,k,none⟩=some (.iface Z yx):=by
    have:=s.cell k _ C;have e:(⟨q0,0,none⟩:Addr).add k=⟨q0,k,none⟩:=by by_cases h:k=0<;>simp[Addr.add,h]
    rwa[e]at this
   have l:=I.out k _ d C B wr c.out;have J:=qab (qnx T a k d B);have M:=qab (qr7 T a k d B);cases m:T d
   ·rw[m]at l;have p:=qab m
    go_wp2_with(first
     |(go_at_call 68;refine l.mono ?_;rintro e w4 ⟨rfl,A⟩;have o:=qab (qdJ c.out A)))
    go_roundg g
    case measure=>omega
    case rel=>exact⟨k+1,by go_num,by show _=_;have:=n.out;omega,by show _=_;rw[J.out,D.out,p.out];rfl,o⟩
   rw[m]at l;have p:Hid (r=true):=by show _=_;rw[<-v.out];exact M.out m
   go_wp2_with(first
    |(go_at_call 68;refine l.mono ?_;rintro e w4 ⟨rfl,A⟩;have o:=qab (qdJ c.out A)))
   go_ret;rw[p.out];exact⟨rfl,o.out⟩

end
section
open Go.RowKit
theorem qdB.of(h:qdB W)(j:∀k,k<W.heap.size->k<=1->V.heap[k]?=W.heap[k]?):qdB V:=by
 have a:∀(g off:Nat) (v:Value),g<=1->W.cell? ⟨g,off,none⟩=some v->V.cell? ⟨g,off,none⟩=some v:=λg off v i c=>(World.cell?_of_block (w:=W) (j g (block_lt_of_cell c) i)).trans c;refine⟨λu b=>a _ _ _ (by decide) (h.cb u b),λu b=>?_⟩;obtain⟨d,e,f⟩:=h.pk u b;exact⟨a _ _ _ (by decide) d,a _ _ _ (by decide) e,a _ _ _ (by decide) f⟩
theorem qdB.lt(h:qdB W):1<W.heap.size:=block_lt_of_cell (h.pk 0 (by decide)).1
theorem qdB.below(h:qdB W)(a:Below W.heap.size W V):qdB V:=h.of λk b _=>a.block k b
theorem qdB.but{b:Nat}(h:qdB W)(a:But b W V)(e:1<b):qdB V:=h.of λk c d=>a.block k c (by omega)
theorem qdW(W:World)(a:Option Addr)(bs:List UInt8)(c:Nat)(d l:Int)(h:qav W a bs):Calls prog 32 #[.int .i64 2,.agg #[.int .i64 d,.int .i64 l],.slice a bs.length c] W λe f =>
   ∃b,e=.returned (.iface 133 (.agg #[.pointer (some ⟨b,0,none⟩),.func (.func 53) #[] #[]]))/\qad f b ⟨a,bs,c,d,l,0,0⟩/\W.heap.size<=b/\Below W.heap.size W f:=by
 have j:=qab h;go_enter func32,ntmps32;go_wp2;go_ret;have g:Below W.heap.size W ((W.alloc (.cells #[.int .i64 d,.int .i64 l] 54)).alloc (.cells #[.slice a bs.length c,.int .i64 d,.int .i64 l,.int .i64 0,.int .i64 0] 128)):=(bwA).alloc (by simp) _;have i:=qac (W.alloc (.cells #[.int .i64 d,.int .i64 l] 54)) (.cells #[.slice a bs.length c,.int .i64 d,.int .i64 l,.int .i64 0,.int .i64 0] 128);rw[World.size_alloc]at i;exact⟨W.heap.size+1,rfl,ql4 j.out g (by omega) i,by omega,g⟩
theorem qeg(W:World)(a:Option Addr)(bs:List UInt8)(c:Nat)(d l:Int)(h:qav W a bs):Calls prog 32 #[.int .i64 3,.agg #[.int .i64 d,.int .i64 l],.slice a bs.length c] W λe f =>
   ∃b,e=.returned (.iface 133 (.agg #[.pointer (some ⟨b,0,none⟩),.func (.func 54) #[] #[]]))/\qad f b ⟨a,bs,c,d,l,0,0⟩/\W.heap.size<=b/\Below W.heap.size W f:=by
 have j:=qab h;go_enter func32,ntmps32;go_wp2;go_ret;have g:Below W.heap.size W ((W.alloc (.cells #[.int .i64 d,.int .i64 l] 54)).alloc (.cells #[.slice a bs.length c,.int .i64 d,.int .i64 l,.int .i64 0,.int .i64 0] 128)):=(bwA).alloc (by simp) _;have i:=qac (W.alloc (.cells #[.int .i64 d,.int .i64 l] 54)) (.cells #[.slice a bs.length c,.int .i64 d,.int .i64 l,.int .i64 0,.int .i64 0] 128);rw[World.size_alloc]at i;exact⟨W.heap.size+1,rfl,ql4 j.out g (by omega) i,by omega,g⟩
theorem qeI(W:World)(b:Nat):Calls prog 183 #[.pointer (some ⟨b,0,none⟩)] W λe a=>e=.returned (.tuple #[])/\a=W:=by
 go_enter func183,ntmps183;go_wp2;go_end0;exact⟨rfl,rfl⟩

theorem qnf.of_below(h:Below W.heap.size W W'):qnf A q sv W W':=⟨h.size,λj a _ _ _ _=>h.block j a⟩
theorem qnf.trans{X:World}(h:qnf A q sv W V)(g:qnf A q sv V X):qnf A q sv W X :=
 ⟨Nat.le_trans h.size g.size,λj e a b c d=>(g.block j (Nat.lt_of_lt_of_le e h.size) a b c d).trans (h.block j e a b c d)⟩
def q0n(W0:World)(A:Nat)(q:Aut)(sts:List ((Nat->Nat)×Int×Int))(sv:Value)(P:Nat->Nat)(x mn:Nat)(W:World)(e:Ending)(W':World):Prop :=
 ∃(i:Nat) (sts':List ((Nat->Nat)×Int×Int)) (sa':Option Addr) (sc':Nat) (nf':Lit->Option Nat) (mn':Nat) (mf':Lit->Option Nat),e=.returned (.int .i64 i)/\qcx W0 A q sts' (.slice sa' sts'.length sc') nf' mn' mf' W'/\qw0 q sts' mf'/\mn'<=mn+1/\(∀(j:Nat) (x:(Nat->Nat)×Int×Int),sts[j]?=some x->sts'[j]?=some x)/\sts'.length<=sts.length+1/\∃t Y,sts'[i]?=some t/\WdY q.rs.length q.st (qiD q.st (q.tk x) P q.rs.length) Y/\(∀r,r<16->t.1 r=Y r)/\qnf A q sv W W'/\qvu sv (.slice sa' sts'.length sc') W
theorem qqy(w:World)(A:Nat)(q:Aut)(c:List ((Nat->Nat)×Int×Int))(H:Option Addr)(o:Nat)(D:Lit->Option Nat)(n:Nat)(m:Lit->Option Nat)(W:World)(ay:qcx w A q c (.slice H c.length o) D n m W)(a8:qw0 q c m)(ba:c.length<100000)(bm:n<100000)(f:Nat)(s:(Nat->Nat)×Int×Int)(O:c[f]?=some s)(B:List UInt8)(G:Bool)(hb:B.length<=maxLen)(x:Nat)(hx:qnC q.lf B G=x)(hxL:x<q.L)(l:Lit)(hl:keyOf prog 255 (.agg (mvA f x))=some l)(hi:m l=none):Calls prog 122 #[.pointer (some ⟨A,0,none⟩),.int .i64 f,.agg #[.string ⟨B.toArray⟩,.bool G]] W (q0n w A q c (.slice H c.length o) s.1 x n W):=by
 have HA:Hid (qcx w A q c (.slice H c.length o) D n m (W.alloc (.cells #[.string ⟨B.toArray⟩,.bool G] 237))):=ay.next bwA
 have HW:Hid (Below W.heap.size W (W.alloc (.cells #[.string ⟨B.toArray⟩,.bool G] 237))):=bwA;have cL:=qfJ w A q c _ D n m _ HA.out B G hb;rw[hx]at cL;have ap:=qab a8;go_enter func122,ntmps122
 go_wp2_with(first
  |(go_at_call 137;refine cL.mono ?_;rintro e b ⟨rfl,z⟩;have E:=qab (HA.out.next z);have ag:=qab (HW.out.trans (z.mono HW.out.size))))
 have P:Hid (qcx w A q c (.slice H c.length o) D n m (b.alloc (.cells #[.int .i64 f,.int .i64 x] 255))):=E.out.next bwA
 have ae:Hid ((b.alloc (.cells #[.int .i64 f,.int .i64 x] 255)).heap[b.heap.size]?=some (.cells (mvA f x) 255)):=qac _ _;have ao:Hid (∀g,(Value.slice H c.length o).ownBlock=some g->g<b.heap.size):=λg e=>qka E.out.states e;have I:Hid (A<b.heap.size/\q.nb<b.heap.size/\q.mb<b.heap.size):=⟨(ltA E.out.row),E.out.numbers.lt,E.out.moves.lt⟩
 have ar:Hid (Below W.heap.size W (b.alloc (.cells #[.int .i64 f,.int .i64 x] 255))):=ag.out.alloc ag.out.size _;generalize b.alloc (.cells #[.int .i64 f,.int .i64 x] 255)=V0 at *;refine rgn (S:=λZ=>Z.cell? ⟨A,22,none⟩=some (.map (some q.mb))/\Z.heap[b.heap.size]?=some (.cells (mvA f x) 255)/\qdm Z 255 q.mb n m) (⟨qaa P.out.row 22,ae.out,P.out.moves⟩) (by kernel_rfl) ?_;intro a;refine tkp 0 16 (.pointer (some ⟨A,0,none⟩)) a ?_;refine tkp 1 17 (.pointer (some ⟨A,0,none⟩)) a ?_;refine tkp 2 18 (.pointer (some ⟨A,22,none⟩)) a ?_;refine tkq 3 19 (.map (some q.mb)) rfl (λZ k=>?y3) a ?_
 case y3=>(have z1:=k.1;go_simp)
 refine tkq 4 20 (.agg (mvA f x)) rfl (λZ k=>?y4) a ?_
 case y4=>exact qja 255 (.tmp 7) rfl b.heap.size rfl _ _ _ _ k.2.1 underlying255 rfl (by kernel_rfl)
 refine tkq 5 21 (.tuple #[.int .i64 0,.bool false]) rfl (λZ k=>?y5) a ?_
 case y5=>(have z2:=qdI k.2.2 mvK underlying109 hl;rw[hi]at z2;go_simp)
 refine tkp 6 15 (.tuple #[.int .i64 0,.bool false]) a ?_;refine tkp 7 22 (.int .i64 0) a ?_;refine tkp 8 23 (.bool false) a ?_;refine tkp 9 8 (.int .i64 0) a ?_;refine tkp 10 9 (.bool false) a ?_;refine wdn ?_;go_simp;have Q:=qab (P.out.next (Below.refl _ _).drew);have af:Hid ((World.drew V0).heap[b.heap.size]?=some (.cells (mvA f x) 255)):=ae.out;have au:=qab (ar.out.drew);generalize World.drew V0=V at *;obtain⟨g,bh,bb,bj,bi,hc⟩:=Q.out.state_at O;injection bb with M _ U;subst M;subst U;have ax:V.cell? ⟨A,20,none⟩=some (.slice (some ⟨g,0,none⟩) c.length o):=qaa Q.out.row 20;have d1:V.cell? ⟨b.heap.size,1,none⟩=some (.int .i64 x):=qaa af.out 1;have bk:(f:Int)<(c.length:Int):=by have:=ltL O;omega
 have HC:Hid (∀(j:Nat) (u:Value),(plA s.1)[j]?=some u->V.cell? ⟨g,f*18+j,none⟩=some u):=λj u hu=>hc j u (by
  have hj:=ltA hu;unfold stA;rw[Array.getElem?_append_left hj];exact hu)
 go_wp2;have a:(λZ:World=>Z.heap[b.heap.size]?=some (.cells (mvA f x) 255)) {V with drawn:=V.drawn+1}:=af.out;have v:Hid (qcx w A q c (.slice (some ⟨g,0,none⟩) c.length o) D n m {V with drawn:=V.drawn+1}):=Q.out.next (Below.refl _ _).drew
 have am:Hid (∀(j:Nat) (u:Value),(plA s.1)[j]?=some u->({V with drawn:=V.drawn+1}:World).cell? ⟨g,f*18+j,none⟩=some u):=HC.out;have bg:({V with drawn:=V.drawn+1}:World).cell? ⟨A,20,none⟩=some (.slice (some ⟨g,0,none⟩) c.length o):=ax;have cA:=qqH {V with drawn:=V.drawn+1} A q.ra q.rc q.rs.length q.st q.tb q.L q.tc q.tk v.out.bits.1 v.out.bits.2 v.out.few.1 v.out.auR v.out.auT s.1 (v.out.here f s O).2 x hxL;refine wp_region_held (S:=λZ=>Z.heap[b.heap.size]?=some (.cells (mvA f x) 255)) (by kernel_rfl) ?_;have ah:Hid (Below W.heap.size W {V with drawn:=V.drawn+1}):=au.out.drew;generalize({V with drawn:=V.drawn+1}:World)=V1 at *;refine tkp 0 26 (.pointer (some ⟨A,0,none⟩)) a ?_;refine tkp 1 27 (.pointer (some ⟨A,0,none⟩)) a ?_;refine tkp 2 28 (.pointer (some ⟨A,0,none⟩)) a ?_;refine tkp 3 29 (.pointer (some ⟨A,0,none⟩)) a ?_;refine tkp 4 30 (.pointer (some ⟨A,20,none⟩)) a ?_;refine tkp 6 32 (.int .i64 f) a ?_;refine tkp 10 36 (.pointer (some ⟨b.heap.size,1,none⟩)) a ?_;refine tkq 11 37 (.int .i64 x) rfl (λZ k=>?y11) a ?_
 case y11=>(have z1:Z.cell? ⟨b.heap.size,1,none⟩=some (.int .i64 x):=qaa k 1;go_simp)
 refine rdq 5 (λK d=>?_);go_simp;refine d.out _ _ a (λ_=>?_);refine rdq 7 (λK d=>?_);go_simp;refine d.out _ _ a (λ_=>?_);refine rdq 8 (λK d=>?_);go_simp;refine d.out _ _ a (λ_=>?_);refine rdq 9 (λK d=>?_);refine ifw (by kernel_rfl) ?_;refine qim 112 _ rfl g (f*18) rfl (plA s.1) _ am.out underlying112 rfl (qbt s.1) ?_;refine d.out _ _ a (λ_=>?_);refine rdq 12 (λK d=>?_);go_simp;refine cA.mono ?_;rintro e w4 ⟨⟨Y,rfl,hY⟩,z⟩;simp only[];have T:=qab hY;have ak:=qab (v.out.next z);have h:(λZ:World=>Z.heap[b.heap.size]?=some (.cells (mvA f x) 255)) w4:=(z.block _ (ltA a)).trans a;refine d.out _ _ h (λ_=>?_);have ai:Hid (qnf A q (.slice (some ⟨g,0,none⟩) c.length o) W w4):=qnf.of_below (ah.out.trans (z.mono ah.out.size));refine rdq 13 (λK d=>?_);go_simp;refine(qgy w A q c _ o D n m w4 ak.out Y T.out.2.2 ba).mono ?_;rintro e w6 ⟨i,ac,be,bf,bd,rfl,hF,a0,az,a9,a7,t,ht,bc⟩;simp only[];have al:=qab az;have r:(λZ:World=>Z.heap[b.heap.size]?=some (.cells (mvA f x) 255)) w6:=(hF.block _ (ltA h) (λe=>by have:=ao.out _ e.symm;omega) (by have:=I.out.1;omega) (by have:=I.out.2.1;omega) (by have:=I.out.2.2;omega)).trans h;have J:=qab a9;have F:Hid (ac[i]?=some t/\∀ab,ab<16->t.1 ab=Y ab):=⟨ht,bc⟩
 refine d.out _ _ r (λ_=>?_);have aq:=qab (a0.mono ai.out.size);have av:=qab (ai.out.trans hF);refine tkp 14 8 (.int .i64 i) r ?_;refine wdn ?_;go_simp;go_wp2;have R:=qab (al.out.next (Below.refl _ _).drew);have bl:=ltL F.out.1;obtain⟨w7,bn,a6,N⟩:=qmN R.out.moves mvK underlying109 (by omega) hl i (by omega);obtain⟨C,M,e2⟩:∃C:Lit->Option Nat,C l=some i/\∀y,y≠l->C y=m y:=by
  have:=Classical.propDecidable;exact⟨λy=>if y=l then some i else m y,if_pos rfl,λy hh=>if_neg hh⟩
 have ad:=qab (R.out.moved N (a6 C M e2));have an:Hid (qw0 q ac C):=by
  intro f2 x2 l2 k2 aj aa;by_cases e:l2=l
  ·subst e;have U:=Option.some.inj (M.symm.trans aa);have X:=qux.inj aj hl;injection X with X;have e5:f2=f/\x2=x:=by
    have:=congrArg Array.toList X;simp[mvA]at this;omega
   rw[e5.1,e5.2,<-U];exact⟨s,t,Y,J.out _ _ O,F.out.1,T.out,F.out.2⟩
  rw[e2 l2 e]at aa;obtain⟨s2,t2,Y2,a1,a2,a3,a4⟩:=ap.out f2 x2 l2 k2 aj aa;exact⟨s2,t2,Y2,J.out _ _ a1,J.out _ _ a2,a3,a4⟩
 have p:(λZ:World=>Z.cell? ⟨A,22,none⟩=some (.map (some q.mb))/\Z.heap[b.heap.size]?=some (.cells (mvA f x) 255)) {w6 with drawn:=w6.drawn+1}:=⟨qaa R.out.row 22,r⟩
 have a5:(λZ:World=>Z.cell? ⟨A,22,none⟩=some (.map (some q.mb))/\Z.heap[b.heap.size]?=some (.cells (mvA f x) 255)) w7:=⟨qaa ad.out.row 22,(N.block b.heap.size (ltA p.2) (by have:=I.out.2.2;simp;omega)).trans p.2⟩
 have aw:=qab (av.out.trans ⟨N.size,λj hj _ _ _ hn=>N.block j hj (by simpa using hn)⟩);refine wp_region_held (S:=λZ=>Z.cell? ⟨A,22,none⟩=some (.map (some q.mb))/\Z.heap[b.heap.size]?=some (.cells (mvA f x) 255)) (by kernel_rfl) ?_;refine tkp 0 40 (.pointer (some ⟨A,0,none⟩)) p ?_;refine tkp 1 41 (.pointer (some ⟨A,0,none⟩)) p ?_;refine tkp 2 42 (.pointer (some ⟨A,22,none⟩)) p ?_;refine tkq 3 43 (.map (some q.mb)) rfl (λZ k=>?y3) p ?_
 case y3=>(have z1:=k.1;go_simp)
 refine tkq 4 44 (.agg (mvA f x)) rfl (λZ k=>?y4) p ?_
 case y4=>exact qja 255 (.tmp 7) rfl b.heap.size rfl _ _ _ _ k.2 underlying255 rfl (by kernel_rfl)
 refine tkp 5 45 (.int .i64 i) p ?_;refine rdq 6 (λK d=>?_);go_simp;refine d.out _ _ a5 (λ_=>?_);refine wdn ?_;go_simp;go_wp2;go_ret;exact⟨i,ac,be,bf,bd,n+1,C,rfl,ad.out,an.out,Nat.le_refl _,J.out,a7,t,Y,F.out.1,T.out,F.out.2,aw.out,aq.out⟩
theorem qww(g:World)(A:Nat)(q:Aut)(a:List ((Nat->Nat)×Int×Int))(m:Option Addr)(n:Nat)(k:Lit->Option Nat)(c:Nat)(b:Lit->Option Nat)(W:World)(h:qcx g A q a (.slice m a.length n) k c b W)(r:qw0 q a b)(G:a.length<100000)(F:c<100000)(f:Nat)(s:(Nat->Nat)×Int×Int)(u:a[f]?=some s)(d:List UInt8)(j:Bool)(w:d.length<=maxLen)(x:Nat)(y:qnC q.lf d j=x)(hxL:x<q.L)(I:q.L<=100000):Calls prog 122 #[.pointer (some ⟨A,0,none⟩),.int .i64 f,.agg #[.string ⟨d.toArray⟩,.bool j]] W (q0n g A q a (.slice m a.length n) s.1 x c W):=by
 have J:=ltL u;obtain⟨l,p⟩:=qzi f x (by omega) (by omega)
 cases o:b l with
 |none=>exact qqy g A q a m n k c b W h r G F f s u d j w x y hxL l p o
 |some i =>
  refine(qoh g A q a _ k c b W h f d j w x y l p i o).mono ?_;rintro e H ⟨rfl,v⟩;obtain⟨K,t,Y,z,B,C,D⟩:=r f x l i p o;have e:=Option.some.inj (u.symm.trans z);subst e;exact⟨i,a,m,n,k,c,b,rfl,h.next v,r,Nat.le_succ _,λ_ _ E=>E,Nat.le_succ _,t,Y,B,C,D,qnf.of_below v,.inl rfl⟩

end
section
open Go.RowKit Go.Shelf
theorem qlR{B:Nat}{a:World}(h:Below B a w)(n:Nat):Below B a (w.drewN n):=h.trans ⟨rfl,rfl,rfl,Nat.le_refl _,λ_ _=>rfl⟩
theorem qe1:(prog.info? 146).map (·.size)=some 3:=by kernel_rfl
theorem qri(s:ByteArray)(k:s.size<=2000):∃(p r:ByteArray) (b:Bool),p.data.toList=(Lib.cut s.data.toList [32]).1/\r.data.toList=(Lib.cut s.data.toList [32]).2.1/\p.size<=2000/\r.size<=2000 /\
  ∀w,qmF w->Calls prog 76 #[.string s,.string ⟨#[32]⟩] w λe d=>e=.returned (.tuple #[.string p,.string r,.bool b])/\Below w.heap.size w d:=by
 have j:s.data.toList.length=s.size:=Array.length_toList;have c:(Lib.cut s.data.toList [32]).1.length<=2000/\(Lib.cut s.data.toList [32]).2.1.length<=2000:=by
  rcases qbJ 32 s.data.toList with⟨h,_⟩|⟨a,r,h,f,_⟩
  ·rw[h];simp;omega
  have:=congrArg List.length f;rw[List.length_append,List.length_cons]at this;rw[h];simp;omega
 refine⟨⟨(Lib.cut s.data.toList [32]).1.toArray⟩,⟨(Lib.cut s.data.toList [32]).2.1.toArray⟩,(Lib.cut s.data.toList [32]).2.2,by simp,by simp,c.1,c.2,λw g=>?_⟩;obtain⟨m,i⟩:=g.mlen;refine(Tryz.strings_Cut s ⟨#[32]⟩ m w (by omega) i).mono ?_;rintro e d ⟨rfl,n,rfl⟩;exact⟨rfl,qlR bwR n⟩
structure qzo(w:World)(W:World):Prop where
 below:Below w.heap.size w W
 res:W.heap[w.heap.size]?=some (.cells qcF 146)
theorem qzo.step(h:qzo w W)(a:Below W.heap.size W W'):qzo w W' :=
 ⟨h.below.trans (a.mono h.below.size),(a.block _ (ltA h.res)).trans h.res⟩
theorem qvT(w:World):qzo w (w.alloc (.cells qcF 146)):=⟨bwA,qac _ _⟩

end
section
open Go.RowKit
def sgS(l:List UInt8):Nat×List UInt8:=if l==[42]then(0,[])else if l==[42,42]then(1,[])else if l==[91,93]then(2,[])else(3,l)
def sgC(s:Nat×List UInt8):List Value:=[.int .i64 s.1,.string ⟨s.2.toArray⟩]
def qjB(l:List UInt8):List (List UInt8):=if l==[46]then[]else qam 47 l
def qec(l:List UInt8):List (List UInt8)×Int×Int:=match qam 32 l with
 |[p,b,c]=>(qjB p,qse b,qeM ⟨c.toArray⟩)
 |_=>([],0,0)
def qcI(l:List UInt8):List (List (List UInt8)×Int×Int):=if l.length=0 then[]else(qam 10 l).map qec
def enS(r:List (List UInt8)×Int×Int):List (Nat×List UInt8)×Int×Int:=(r.1.map sgS,r.2)
theorem qtD(l:List UInt8):(sgS l).1<=3:=by
 unfold sgS;split
 ·exact Nat.zero_le _
 split
 ·show(1:Nat)<=3;omega
 split
 ·show(2:Nat)<=3;omega
 exact Nat.le_refl _
theorem qvZ(l:List UInt8):(sgS l).2.length<=l.length:=by
 unfold sgS;split
 ·simp
 split
 ·simp
 split
 ·simp
 exact Nat.le_refl _
theorem qhU(h:qaD n l=true):qam 32 l=[(Lib.cut l [32]).1,(Lib.cut (Lib.cut l [32]).2.1 [32]).1,(Lib.cut (Lib.cut l [32]).2.1 [32]).2.1]:=by
 rw[<-qrZ]at h;unfold qsG at h;rcases qbJ 32 l with⟨f,j⟩|⟨a,r,f,_,j⟩
 ·rw[f]at h;rcases qbJ 32 []with⟨c,g⟩|⟨a,r,_,c,_⟩
  ·simp[c,qiK]at h
  simp at c
 rw[f]at h ⊢;rw[j];rcases qbJ 32 r with⟨c,g⟩|⟨b,q,c,_,g⟩
 ·rw[c]at h;have:qeM ⟨([]:List UInt8).toArray⟩=0:=by rw[qi7];rfl
  simp[this]at h
 rw[c]at h ⊢;rw[g];rcases qbJ 32 q with⟨k,i⟩|⟨d,e,k,i,m⟩
 ·rw[i]
 rw[i]at h;simp[qkv]at h
theorem qr4{p b c:List UInt8}(h:qam 32 l=[p,b,c]):qec l=(qjB p,qse b,qeM ⟨c.toArray⟩):=by
 unfold qec;rw[h]
def qlq(W:World)(lo:Nat)(t:TypeId)(pa:Option Addr)(cs:List Value):Prop :=
 cs=[]\/∃b off cur fr,pa=some ⟨b,off,none⟩/\lo<=b/\W.heap[b]?=some (.cells cur t fr)/\∀j (h:j<cs.length),cur[off+j]?=some cs[j]
theorem qlq.kept{t:TypeId}(h:qlq W lo t pa cs)(i:∀b a c,lo<=b->W.heap[b]?=some (.cells a t c)->lo'<=b/\W'.heap[b]?=some (.cells a t c)):qlq W' lo' t pa cs:=by
 rcases h with h|⟨b,off,a,c,d,e,f,g⟩
 ·exact .inl h
 obtain⟨j,k⟩:=i b a c e f;exact .inr ⟨b,off,a,c,d,j,k,g⟩
theorem qlq.below{t:TypeId}(h:qlq W lo t pa cs)(d:Below W.heap.size W W'):qlq W' lo t pa cs :=
 h.kept λb _ _ c a=>⟨c,(d.block b (ltA a)).trans a⟩
theorem qvx{e:TypeId}(h:W.ownsRow base e size v n xs)(p:lo<=base):∃f c,v=.slice f n c/\qlq W lo e f xs:=by
 obtain⟨o,⟨b,d⟩|⟨g,c,i,b,d,k,_,_,_,l⟩⟩:=h
 ·subst d;exact⟨none,0,b,.inl (List.eq_nil_of_length_eq_zero (by omega))⟩
 refine⟨_,_,b,.inr ⟨g,0,i,_,rfl,by omega,k,λj m=>?_⟩⟩;have a:=congrArg (·[j]?) l;simp only[List.getElem?_take]at a;rw[if_pos (by omega),List.getElem?_eq_getElem m]at a;rw[Nat.zero_add];simpa using a
def RwB(W:World)(lo:Nat)(t:TypeId)(xs:List Value)(es:List (List Value×Nat×Int×Int)):Prop :=
 xs.length=es.length*3/\∀i (h:i<es.length),∃pa pc,xs[i*3]?=some (.slice pa es[i].2.1 pc)/\xs[i*3+1]?=some (.int .i64 es[i].2.2.1)/\xs[i*3+2]?=some (.int .i64 es[i].2.2.2)/\qlq W lo t pa es[i].1
theorem qqS(W:World)(lo:Nat)(t:TypeId):RwB W lo t [] []:=⟨rfl,λi h=>by simp at h⟩
theorem RwB.kept{t:TypeId}(h:RwB W lo t xs es)(k:∀b a c,lo<=b->W.heap[b]?=some (.cells a t c)->lo'<=b/\W'.heap[b]?=some (.cells a t c)):RwB W' lo' t xs es:=by
 refine⟨h.1,λi j=>?_⟩;obtain⟨l,m,d,e,f,g⟩:=h.2 i j;exact⟨l,m,d,e,f,g.kept k⟩
theorem RwB.below{t:TypeId}(h:RwB W lo t xs es)(d:Below W.heap.size W W'):RwB W' lo t xs es :=
 h.kept λb _ _ c a=>⟨c,(d.block b (ltA a)).trans a⟩
theorem RwB.push{t:TypeId}(h:RwB W lo t xs es){e:List Value×Nat×Int×Int}{pc:Nat}(j:qlq W lo t pa e.1):RwB W lo t (xs++[.slice pa e.2.1 pc,.int .i64 e.2.2.1,.int .i64 e.2.2.2]) (es++[e]):=by
 have a:=h.1;refine⟨by simp[a];omega,λi k=>?_⟩;by_cases b:i<es.length
 ·obtain⟨m,n,c,d,f,g⟩:=h.2 i b;rw[List.getElem_append_left b];refine⟨m,n,?_,?_,?_,g⟩
  ·rw[List.getElem?_append_left (by omega)];exact c
  ·rw[List.getElem?_append_left (by omega)];exact d
  rw[List.getElem?_append_left (by omega)];exact f
 have l:i=es.length:=by simp at k;omega
 subst l;rw[List.getElem_append_right (Nat.le_refl _)];simp only[Nat.sub_self,List.getElem_cons_zero];refine⟨pa,pc,?_,?_,?_,j⟩
 ·rw[List.getElem?_append_right (by omega),a,Nat.sub_self];rfl
 ·rw[List.getElem?_append_right (by omega),a,show es.length*3+1-es.length*3=1 by omega];rfl
 rw[List.getElem?_append_right (by omega),a,show es.length*3+2-es.length*3=2 by omega];rfl
theorem qxF:∀(ss:List (Nat×List UInt8)) (j:Nat) (h:j<ss.length),(ss.flatMap sgC)[j*2]?=some (.int .i64 ss[j].1)/\(ss.flatMap sgC)[j*2+1]?=some (.string ⟨ss[j].2.toArray⟩)
 |x::ss,0,_=>⟨rfl,rfl⟩
 |x::ss,j+1,h=>by
  have a:=qxF ss j (by simpa using h);rw[List.flatMap_cons,show(j+1)*2=j*2+2 by omega];exact a
theorem qy1(a:List (Nat×List UInt8)):(a.flatMap sgC).length=a.length*2:=by
 induction a with
 |nil=>rfl
 |cons x a b =>
  rw[List.flatMap_cons,List.length_append,b,List.length_cons];show 2+_=_;omega
def enP(r:List (Nat×List UInt8)×Int×Int):List Value×Nat×Int×Int:=(r.1.flatMap sgC,r.1.length,r.2.1,r.2.2)
theorem qwP{t:TypeId}{ss:List (Nat×List UInt8)}(h:qlq W lo t pa (ss.flatMap sgC)):qlM W pa ss:=by
 refine⟨λi n=>?_⟩;have j:=qy1 ss;rcases h with h|⟨b,off,e,f,m,o,a,g⟩
 ·rw[h]at j;simp at j;omega
 obtain⟨k,l⟩:=qxF ss i n;have c:=g (i*2) (by omega);have d:=g (i*2+1) (by omega);rw[<-List.getElem?_eq_getElem]at c d;refine⟨b,off,m,(ltA a),?_,?_⟩
 ·rw[cell_of_row W b _ e _ f a,c,k]
 rw[Nat.add_assoc,cell_of_row W b _ e _ f a,d,l]
theorem qxa{t:TypeId}{rs:List (List (Nat×List UInt8)×Int×Int)}(h:W.ownsRow base 146 3 v rs.length xs)(x:RwB W lo t xs (rs.map enP)):∃a f,v=.slice a rs.length f/\qe0 W a rs:=by
 obtain⟨A,⟨c,k⟩|⟨g,f,r,c,k,l,_,_,_,w⟩⟩:=h
 ·exact⟨none,0,by rw[c,k],⟨λi d=>by omega⟩⟩
 refine⟨_,_,c,⟨λi d=>?_⟩⟩;obtain⟨y,z,n,o,p,q⟩:=x.2 i (by simpa using d);have e:∀j u,xs[j]?=some u->W.cell? ⟨g,0+j,none⟩=some u:=by
  intro j u m;have B:=ltL m;have b:=congrArg (·[j]?) w;simp only[List.getElem?_take]at b;rw[if_pos (by omega),m]at b;rw[Nat.zero_add,cell_of_row W g j r _ _ l];simpa using b
 have s:(rs.map enP)[i]'(by simpa using d)=enP rs[i]:=by simp
 rw[s]at n o p q;exact⟨g,0,y,z,rfl,(ltA l),e _ _ n,by have:=e _ _ o;rwa[Nat.zero_add]at this ⊢,by have:=e _ _ p;rwa[Nat.zero_add]at this ⊢,qwP q⟩

theorem qrk(q:Aut)(st:Nat->Nat)(b a:Value):(qiB q st b a)[2]?=some (.map (some q.lm)):=by kernel_rfl
theorem qpr(q:Aut)(st:Nat->Nat)(a b:Value):(qiB q st a b)[19]?=some a:=by kernel_rfl
theorem Tryz.infoPlc:(prog.info? 112).map (λi=>(i.zero,i.size,i.bytes))=some (some (.agg (plA zPl)),16,32):=by kernel_rfl
theorem qz1(n:Nat)(h:n<=128)(w:World):(Instr.makeSlice 113 (.int .i64 (wrap64 (2+(n:Int)))) (.int .i64 (wrap64 (2+(n:Int))))).run prog w=.ok (.slice (some ⟨w.heap.size,0,none⟩) (2+n) (2+n)) (w.alloc (.cells (madeCells (plA zPl) ((2+n)*16)) 112)):=by
 obtain⟨i,f,c,a,d⟩:=info_parts Tryz.infoPlc;have e:((2+n:Nat):Int).toNat=2+n:=Int.toNat_natCast _;have b:=run_makeSlice (P:=prog) (w:=w) 113 112 i (.agg (plA zPl)) underlying113 f c .i64 .i64 ((2+n:Nat):Int) ((2+n:Nat):Int) (by omega) (Int.le_refl _) (by rw[e,a];omega) (by rw[d];omega) (by omega);rw[e,a]at b;rw[wr2 n h];exact b

theorem qvM(L:Nat):TkC (madeCells (plA zPl) (L*16)) L (λ_ _=>0):=by
 refine⟨size_madeCells _ _,λx r d c=>?_⟩;have a:x*16+r<L*16:=by omega
 have b:(x*16+r)%16<16:=Nat.mod_lt _ (by omega);have h:=qdl zPl ((x*16+r)%16) b;have e:(plA zPl)[(x*16+r)%(plA zPl).size]! = .int .u16 0:=by
  rw[qcf,getElem!_def,h];rfl
 unfold madeCells;rw[Array.getElem?_map,Array.getElem?_range,if_pos a,Option.map_some,e];rfl
theorem qok{L:Nat}(b:W.heap[A]?=some (.cells (qiB q (λ_=>0) (.slice none 0 0) sv) 116)):qcy W A W.heap.size L q sv (λ_=>0) (λ_ _=>0) ((W.alloc (.cells (madeCells (plA zPl) (L*16)) 112)).setCell ⟨A,19,none⟩ (.slice (some ⟨W.heap.size,0,none⟩) L L)):=by
 have f:=ltA b;have a:=heap_setCell_same (W.alloc (.cells (madeCells (plA zPl) (L*16)) 112)) A 19 _ _ (.slice (some ⟨W.heap.size,0,none⟩) L L) ((Below.heap_alloc W _ A f).trans b);rw[qqv]at a;refine⟨a,⟨_,(Below.heap_setCell _ _ _ _ (by simp;omega)).trans (qac W _),qvM L⟩,rfl,rfl,rfl,?_,λk c d=>(Below.heap_setCell _ _ _ _ (by simpa using d)).trans (Below.heap_alloc W _ k c)⟩;have e:((W.alloc (.cells (madeCells (plA zPl) (L*16)) 112)).setCell ⟨A,19,none⟩ (.slice (some ⟨W.heap.size,0,none⟩) L L)).heap.size=(W.alloc (.cells (madeCells (plA zPl) (L*16)) 112)).heap.size:=by simp[World.setCell]
 rw[e,World.size_alloc];omega

end
end Go.Proofs.YtpifimohecagoaaGreatDoor
