import Derived.Test.YtllcbnfmihfaaaaGreatDoorTq10
set_option maxRecDepth 100000
set_option maxHeartbeats 8000000
namespace Go.Proofs.YtllcbnfmihfaaaaGreatDoor
open Go.Proofs.Tryz
variable {P:Program}{ops:Array Oper}{o:Oper}{a:Act}{Q:Exit→Act→World→Prop}
section
open Go.RowKit Go.Lib
theorem qcx  : ∀w:World,(Instr.typeAssert (.iface 247 (.agg #[])) 81 277 true).run prog w=.ok (.tuple #[.bool false,.bool false]) w:=fun w=>by kernel_rfl
theorem qcf  : ∀w:World,(Instr.typeAssert (.iface 247 (.agg #[])) 81 279 true).run prog w=.ok (.tuple #[.int .i64 0,.bool false]) w:=fun w=>by kernel_rfl
theorem qcN  : ∀w:World,(Instr.typeAssert (.iface 247 (.agg #[])) 81 281 true).run prog w=.ok (.tuple #[.string ByteArray.empty,.bool false]) w:=fun w=>by kernel_rfl
theorem qd6  : ∀w:World,(Instr.typeAssert (.iface 247 (.agg #[])) 81 202 true).run prog w=.ok (.tuple #[.slice none 0 0,.bool false]) w:=fun w=>by kernel_rfl
theorem qcO  : ∀w:World,(Instr.typeAssert (.iface 247 (.agg #[])) 81 204 true).run prog w=.ok (.tuple #[.slice none 0 0,.bool false]) w:=fun w=>by kernel_rfl
theorem qdq  : ∀w:World,(Instr.typeAssert (.iface 247 (.agg #[])) 81 206 true).run prog w=.ok (.tuple #[.slice none 0 0,.bool false]) w:=fun w=>by kernel_rfl
theorem qbu (b:Bool):∀w:World,(Instr.typeAssert (.iface 277 (.bool b)) 81 277 true).run prog w=.ok (.tuple #[.bool b,.bool true]) w:=fun w=>by kernel_rfl
theorem qdU (s:ByteArray):∀w:World,(Instr.typeAssert (.iface 281 (.string s)) 81 277 true).run prog w=.ok (.tuple #[.bool false,.bool false]) w:=fun w=>by kernel_rfl
theorem qdi (s:ByteArray):∀w:World,(Instr.typeAssert (.iface 281 (.string s)) 81 279 true).run prog w=.ok (.tuple #[.int .i64 0,.bool false]) w:=fun w=>by kernel_rfl
theorem qeH (s:ByteArray):∀w:World,(Instr.typeAssert (.iface 281 (.string s)) 81 281 true).run prog w=.ok (.tuple #[.string s,.bool true]) w:=fun w=>by kernel_rfl
theorem qbL (a:Option Addr)(n c:Nat):∀w:World,(Instr.typeAssert (.iface 202 (.slice a n c)) 81 277 true).run prog w=.ok (.tuple #[.bool false,.bool false]) w:=fun w=>by kernel_rfl
theorem qb3 (a:Option Addr)(n c:Nat):∀w:World,(Instr.typeAssert (.iface 202 (.slice a n c)) 81 279 true).run prog w=.ok (.tuple #[.int .i64 0,.bool false]) w:=fun w=>by kernel_rfl
theorem qbX (a:Option Addr)(n c:Nat):∀w:World,(Instr.typeAssert (.iface 202 (.slice a n c)) 81 281 true).run prog w=.ok (.tuple #[.string ByteArray.empty,.bool false]) w:=fun w=>by kernel_rfl
theorem qco (a:Option Addr)(n c:Nat):∀w:World,(Instr.typeAssert (.iface 202 (.slice a n c)) 81 202 true).run prog w=.ok (.tuple #[.slice a n c,.bool true]) w:=fun w=>by kernel_rfl
theorem qdI (a:Option Addr)(n c:Nat):∀w:World,(Instr.typeAssert (.iface 204 (.slice a n c)) 81 277 true).run prog w=.ok (.tuple #[.bool false,.bool false]) w:=fun w=>by kernel_rfl
theorem qda (a:Option Addr)(n c:Nat):∀w:World,(Instr.typeAssert (.iface 204 (.slice a n c)) 81 279 true).run prog w=.ok (.tuple #[.int .i64 0,.bool false]) w:=fun w=>by kernel_rfl
theorem qeI (a:Option Addr)(n c:Nat):∀w:World,(Instr.typeAssert (.iface 204 (.slice a n c)) 81 281 true).run prog w=.ok (.tuple #[.string ByteArray.empty,.bool false]) w:=fun w=>by kernel_rfl
theorem qg1 (a:Option Addr)(n c:Nat):∀w:World,(Instr.typeAssert (.iface 204 (.slice a n c)) 81 202 true).run prog w=.ok (.tuple #[.slice none 0 0,.bool false]) w:=fun w=>by kernel_rfl
theorem qeC (a:Option Addr)(n c:Nat):∀w:World,(Instr.typeAssert (.iface 204 (.slice a n c)) 81 204 true).run prog w=.ok (.tuple #[.slice a n c,.bool true]) w:=fun w=>by kernel_rfl
theorem qeD (a:Option Addr)(n c:Nat):∀w:World,(Instr.typeAssert (.iface 206 (.slice a n c)) 81 277 true).run prog w=.ok (.tuple #[.bool false,.bool false]) w:=fun w=>by kernel_rfl
theorem qdR (a:Option Addr)(n c:Nat):∀w:World,(Instr.typeAssert (.iface 206 (.slice a n c)) 81 279 true).run prog w=.ok (.tuple #[.int .i64 0,.bool false]) w:=fun w=>by kernel_rfl
theorem qf7 (a:Option Addr)(n c:Nat):∀w:World,(Instr.typeAssert (.iface 206 (.slice a n c)) 81 281 true).run prog w=.ok (.tuple #[.string ByteArray.empty,.bool false]) w:=fun w=>by kernel_rfl
theorem qhd (a:Option Addr)(n c:Nat):∀w:World,(Instr.typeAssert (.iface 206 (.slice a n c)) 81 202 true).run prog w=.ok (.tuple #[.slice none 0 0,.bool false]) w:=fun w=>by kernel_rfl
theorem qfH (a:Option Addr)(n c:Nat):∀w:World,(Instr.typeAssert (.iface 206 (.slice a n c)) 81 204 true).run prog w=.ok (.tuple #[.slice none 0 0,.bool false]) w:=fun w=>by kernel_rfl
theorem qhO (a:Option Addr)(n c:Nat):∀w:World,(Instr.typeAssert (.iface 206 (.slice a n c)) 81 206 true).run prog w=.ok (.tuple #[.slice a n c,.bool true]) w:=fun w=>by kernel_rfl
theorem qla (W:World)(base:Nat)(v:Value)(bs:List UInt8)(hl:bs.length≤999999999)(h:Own W base v bs):Calls prog 111 #[v,.iface 247 (.agg #[])] W fun e W'=>∃v',e=.returned v'∧Own W' base v' (bs++[192])∧Below base W W':=by
 obtain⟨i0,hi,hz0,hz1,hz2⟩:=info_parts Tryz.infoU8;obtain⟨ho,hb,a,n,c,rfl⟩:=h;have HOw:Hid (Own W base (.slice a n c) bs):=⟨ho,hb,a,n,c,rfl⟩
 have HO:=qaa ho;have ta0:=qcx;have ta1:=qcf;have ta2:=qcN;have ta3:=qd6;have ta4:=qcO;have ta5:=qdq;go_enter func111,ntmps111
 go_wp2_with (first
  |(at_builtin;refine wpList_append_own _ rfl _ _ 28 rfl base 5 i0 (.int .u8 0) 1 1 underlying28 hi hz0 hz1 hz2 rfl (by decide) _ _ _ rfl (HO.out.alloc _) ⟨W.heap.size,0,none⟩ 1 1 [.int .u8 192] rfl rfl (qag _ _ _) (fun u hu=>by simp at hu;subst hu;rfl) (by unfold maxLen;omega) (by omega) (by simp;omega) ?_;intro v' w5 hown' hgrow5 hnil5;have HB:Hid (Own w5 base v' (bs++[192])∧Below base W w5):=qax hb HO.out rfl hown' hgrow5;obtain⟨g5,cap5,rfl⟩:=ownsRow_succ hown'))
 go_ret;exact⟨_,rfl,HB.out⟩
theorem qgL (W:World)(base:Nat)(v:Value)(bs:List UInt8)(hl:bs.length≤999999999)(h:Own W base v bs):Calls prog 111 #[v,.iface 277 (.bool true)] W fun e W'=>∃v',e=.returned v'∧Own W' base v' (bs++[195])∧Below base W W':=by
 obtain⟨i0,hi,hz0,hz1,hz2⟩:=info_parts Tryz.infoU8;obtain⟨ho,hb,a,n,c,rfl⟩:=h;have HOw:Hid (Own W base (.slice a n c) bs):=⟨ho,hb,a,n,c,rfl⟩
 have HO:=qaa ho;have ta0:=qbu true;go_enter func111,ntmps111
 go_wp2_with (first
  |(at_builtin;refine wpList_append_own _ rfl _ _ 28 rfl base 5 i0 (.int .u8 0) 1 1 underlying28 hi hz0 hz1 hz2 rfl (by decide) _ _ _ rfl (HO.out.alloc _) ⟨W.heap.size,0,none⟩ 1 1 [.int .u8 195] rfl rfl (qag _ _ _) (fun u hu=>by simp at hu;subst hu;rfl) (by unfold maxLen;omega) (by omega) (by simp;omega) ?_;intro v' w5 hown' hgrow5 hnil5;have HB:Hid (Own w5 base v' (bs++[195])∧Below base W w5):=qax hb HO.out rfl hown' hgrow5;obtain⟨g5,cap5,rfl⟩:=ownsRow_succ hown'))
 go_ret;exact⟨_,rfl,HB.out⟩
theorem qfL (W:World)(base:Nat)(v:Value)(bs:List UInt8)(hl:bs.length≤999999999)(h:Own W base v bs):Calls prog 111 #[v,.iface 277 (.bool false)] W fun e W'=>∃v',e=.returned v'∧Own W' base v' (bs++[194])∧Below base W W':=by
 obtain⟨i0,hi,hz0,hz1,hz2⟩:=info_parts Tryz.infoU8;obtain⟨ho,hb,a,n,c,rfl⟩:=h;have HOw:Hid (Own W base (.slice a n c) bs):=⟨ho,hb,a,n,c,rfl⟩
 have HO:=qaa ho;have ta0:=qbu false;go_enter func111,ntmps111
 go_wp2_with (first
  |(at_builtin;refine wpList_append_own _ rfl _ _ 28 rfl base 5 i0 (.int .u8 0) 1 1 underlying28 hi hz0 hz1 hz2 rfl (by decide) _ _ _ rfl (HO.out.alloc _) ⟨W.heap.size,0,none⟩ 1 1 [.int .u8 194] rfl rfl (qag _ _ _) (fun u hu=>by simp at hu;subst hu;rfl) (by unfold maxLen;omega) (by omega) (by simp;omega) ?_;intro v' w5 hown' hgrow5 hnil5;have HB:Hid (Own w5 base v' (bs++[194])∧Below base W w5):=qax hb HO.out rfl hown' hgrow5;obtain⟨g5,cap5,rfl⟩:=ownsRow_succ hown'))
 go_ret;exact⟨_,rfl,HB.out⟩
theorem qqN (W:World)(base:Nat)(v:Value)(bs:List UInt8)(l:List UInt8)(hl:bs.length≤999999999)(hl2:l.length≤999999999)(h:Own W base v bs):Calls prog 111 #[v,.iface 281 (.string ⟨l.toArray⟩)] W fun e W'=>∃v',e=.returned v'∧Own W' base v' (bs++(qa2 l.length++l))∧Below base W W':=by
 obtain⟨i0,hi,hz0,hz1,hz2⟩:=info_parts Tryz.infoU8;obtain⟨ho,hb,a,n,c,rfl⟩:=h;have HOw:Hid (Own W base (.slice a n c) bs):=⟨ho,hb,a,n,c,rfl⟩
 have HO:=qaa ho;have ta0:=qdU ⟨l.toArray⟩;have ta1:=qdi ⟨l.toArray⟩;have ta2:=qeH ⟨l.toArray⟩;go_enter func111,ntmps111
 go_wp2_with (first
  |(go_at_call 167;refine(qj4 _ base _ bs l hl hl2 HOw.out).mono ?_;rintro e w6 ⟨v6,rfl,h6,hB6⟩;obtain⟨h61,h62,a6,n6,c6,rfl⟩:=h6))
 go_ret;exact⟨_,rfl,⟨h61,h62,_,_,_,rfl⟩,hB6⟩
theorem qkS (W:World)(base:Nat)(v:Value)(bs:List UInt8)(hl:bs.length≤999999999)(h:Own W base v bs):Calls prog 110 #[v,.iface 247 (.agg #[])] W fun e W'=>∃v',e=.returned v'∧Own W' base v' (bs++qaj 7 22)∧Below base W W':=by
 obtain⟨i0,hi,hz0,hz1,hz2⟩:=info_parts Tryz.infoU8;obtain⟨ho,hb,a,n,c,rfl⟩:=h;have HOw:Hid (Own W base (.slice a n c) bs):=⟨ho,hb,a,n,c,rfl⟩
 have HO:=qaa ho;have ta0:=qcx;have ta1:=qcf;have ta2:=qcN;have ta3:=qd6;have ta4:=qcO;have ta5:=qdq;go_enter func110,ntmps110
 go_wp2_with (first
  |(go_at_call 163;refine(qbl _ base _ bs 7 22 (by omega) (by omega) hl HOw.out).mono ?_;rintro e w6 ⟨v6,rfl,h6,hB6⟩;obtain⟨h61,h62,a6,n6,c6,rfl⟩:=h6))
 go_ret;exact⟨_,rfl,⟨h61,h62,_,_,_,rfl⟩,hB6⟩
theorem qgF (W:World)(base:Nat)(v:Value)(bs:List UInt8)(hl:bs.length≤999999999)(h:Own W base v bs):Calls prog 110 #[v,.iface 277 (.bool true)] W fun e W'=>∃v',e=.returned v'∧Own W' base v' (bs++qaj 7 21)∧Below base W W':=by
 obtain⟨i0,hi,hz0,hz1,hz2⟩:=info_parts Tryz.infoU8;obtain⟨ho,hb,a,n,c,rfl⟩:=h;have HOw:Hid (Own W base (.slice a n c) bs):=⟨ho,hb,a,n,c,rfl⟩
 have HO:=qaa ho;have ta0:=qbu true;go_enter func110,ntmps110
 go_wp2_with (first
  |(go_at_call 163;refine(qbl _ base _ bs 7 21 (by omega) (by omega) hl HOw.out).mono ?_;rintro e w6 ⟨v6,rfl,h6,hB6⟩;obtain⟨h61,h62,a6,n6,c6,rfl⟩:=h6))
 go_ret;exact⟨_,rfl,⟨h61,h62,_,_,_,rfl⟩,hB6⟩
theorem qga (W:World)(base:Nat)(v:Value)(bs:List UInt8)(hl:bs.length≤999999999)(h:Own W base v bs):Calls prog 110 #[v,.iface 277 (.bool false)] W fun e W'=>∃v',e=.returned v'∧Own W' base v' (bs++qaj 7 20)∧Below base W W':=by
 obtain⟨i0,hi,hz0,hz1,hz2⟩:=info_parts Tryz.infoU8;obtain⟨ho,hb,a,n,c,rfl⟩:=h;have HOw:Hid (Own W base (.slice a n c) bs):=⟨ho,hb,a,n,c,rfl⟩
 have HO:=qaa ho;have ta0:=qbu false;go_enter func110,ntmps110
 go_wp2_with (first
  |(go_at_call 163;refine(qbl _ base _ bs 7 20 (by omega) (by omega) hl HOw.out).mono ?_;rintro e w6 ⟨v6,rfl,h6,hB6⟩;obtain⟨h61,h62,a6,n6,c6,rfl⟩:=h6))
 go_ret;exact⟨_,rfl,⟨h61,h62,_,_,_,rfl⟩,hB6⟩
theorem qrp (W:World)(base:Nat)(v:Value)(bs:List UInt8)(l:List UInt8)(hl:bs.length≤999999999)(hl2:l.length≤999999999)(h:Own W base v bs):Calls prog 110 #[v,.iface 281 (.string ⟨l.toArray⟩)] W fun e W'=>∃v',e=.returned v'∧Own W' base v' (bs++(qaj 3 l.length++l))∧Below base W W':=by
 obtain⟨i0,hi,hz0,hz1,hz2⟩:=info_parts Tryz.infoU8;obtain⟨ho,hb,a,n,c,rfl⟩:=h;have HOw:Hid (Own W base (.slice a n c) bs):=⟨ho,hb,a,n,c,rfl⟩
 have HO:=qaa ho;have ta0:=qdU ⟨l.toArray⟩;have ta1:=qdi ⟨l.toArray⟩;have ta2:=qeH ⟨l.toArray⟩;go_enter func110,ntmps110
 go_wp2_with (first
  |(go_at_call 164;refine(qjn _ base _ bs l hl hl2 HOw.out).mono ?_;rintro e w6 ⟨v6,rfl,h6,hB6⟩;obtain⟨h61,h62,a6,n6,c6,rfl⟩:=h6))
 go_ret;exact⟨_,rfl,⟨h61,h62,_,_,_,rfl⟩,hB6⟩
theorem qcT (w:World)(t t' ty e:TypeId)(ht:P.underlying t=some (.slice e))(ht':P.underlying t'=some (.slice e))(s:Value)(x:Value):(Builtin.append_ #[t,t'] ty #[s,x]).run P w=(Builtin.append_ #[t,t] ty #[s,x]).run P w:=by
 cases s<;>simp[Builtin.append_,run_underlying ht,run_underlying ht']
theorem qcr (w:World){rest:List Oper}(hgd:o.guard=none)(s x:Operand)(t t':TypeId)(ho:o.op=.call {callee:=.builtin .append,args:=#[s,x],argTypes:=#[t,t']})(base:Nat)(e:TypeId)(i:TypeInfo)(z:Value)(size bytes:Nat)(ht:P.underlying t=some (.slice e))(ht':P.underlying t'=some (.slice e))(hi:P.info? e=some i)(hz:i.zero=some z)(hsize:i.size=size)(hby:i.bytes=bytes)(hzs:z.cells.size=size)(hsz:0<size)(v:Value)(n:Nat)(xs:List Value)(hs:a.eval s=v)(hown:w.ownsRow base e size v n xs)(ad:Addr)(m c:Nat)(news:List Value)(hx:a.eval x=.slice (some ad) m c)(hl:news.length=m*size)(hnews:∀j u,news[j]? = some u→w.cell? (ad.add j)=some u)(h1:∀u∈news,u.oneCell'=true)(h63:n+m≤maxLen)(hbytes:(n+m)*bytes≤140737488355328)(hbase:base≤w.heap.size)(h:∀v' w',w'.ownsRow base e size v' (n+m) (xs++news)→w.grownBy w' v.ownBlock→wpList P ops Q rest (a.put o.dst v') w'):wpList P ops Q (o::rest) a w:=by
 refine wpList_plain hgd fun K hK => ?_;obtain⟨v',w',hr,h2,h3,_⟩:=run_append_own (P:=P) w base t o.type e i z size bytes ht hi hz hsize hby hzs hsz v n xs hown ad m c news hl hnews h1 h63 hbytes hbase;rw[←qcT w t t' o.type e ht ht'] at hr;unfold Oper.wp execOp;simp only[ho,resolve,invoke,builtin,Sem.run_bind,Sem.run_pure,Result.andThen_ok,List.map_toArray,List.map_cons,List.map_nil,hs,hx,hr];exact hK _ _ (h v' w' h2 h3)
theorem qce {w:World}{rest:List Oper}(hgd:o.guard=none)(s x:Operand)(t t':TypeId)(ho:o.op=.call {callee:=.builtin .append,args:=#[s,x],argTypes:=#[t,t']})(base:Nat)(e:TypeId)(i:TypeInfo)(size:Nat)(ht:P.underlying t=some (.slice e))(ht':P.underlying t'=some (.slice e))(hi:P.info? e=some i)(v:Value)(n:Nat)(xs:List Value)(hs:a.eval s=v)(hown:w.ownsRow base e size v n xs)(hx:a.eval x=.slice none 0 0)(h:wpList P ops Q rest (a.put o.dst v) w):wpList P ops Q (o::rest) a w:=by
 refine wpList_plain hgd fun K hK => ?_;have hr:=run_append_owned_none (P:=P) (w:=w) base t o.type e i size ht hi v n xs hown;rw[←qcT w t t' o.type e ht ht'] at hr;unfold Oper.wp execOp;simp only[ho,resolve,invoke,builtin,Sem.run_bind,Sem.run_pure,Result.andThen_ok,List.map_toArray,List.map_cons,List.map_nil,hs,hx,hr];exact hK _ _ h
theorem qb1.cell {V:World}{t:TypeId}{size n:Nat}{F:Nat→Prop}{g cap:Nat}{xs:List Value}(h:qb1 V t size F (.slice (some ⟨g,0,none⟩) n cap) n xs):∀j u,xs[j]? = some u→V.cell? ((⟨g,0,none⟩:Addr).add j)=some u:=by
 obtain⟨hl,h2⟩:=h;rcases h2 with ⟨e,_⟩|⟨g',cap',cur,e,hF,hg,h1,h3,h4,h5⟩
 ·simp at e
 injection e with e1 e2 e3;injection e1 with e1;injection e1 with e1;subst e1;intro j u hu;have e:(⟨g,0,none⟩:Addr).add j=⟨g,j,none⟩:=by by_cases h:j=0<;>simp[Addr.add,h]
 rw[e,cell_of_row _ _ _ _ _ _ hg];rw[←h5,List.getElem?_take] at hu;split at hu
 ·simpa using hu
 simp at hu
theorem qeY {W W':World}{base:Nat}{v v':Value}{bs l:List UInt8}(h:Own W base v bs)(hown:W'.ownsRow base 5 1 v' (bs.length+l.length) (bs.map qav++l.map qav))(hg:W.grownBy W' v.ownBlock):Own W' base v' (bs++l)∧Below base W W':=by
 obtain⟨ho,hb,_⟩:=h;have hB:=qaz (Below.refl base W) ho hg hb;refine⟨⟨by rw[List.length_append,List.map_append];exact hown,Nat.le_trans hb hB.size,?_⟩,hB⟩;rcases hown.2 with ⟨e,_⟩|⟨g,cap,cur,e,_⟩
 ·exact⟨none,0,0,e⟩
 exact⟨_,_,_,e⟩
theorem qp5 (x k:Nat):(beF x k).length=k:=by induction k with|zero=>rfl|succ k ih=>rw[beF,List.length_cons,ih]
theorem qnc (s x:Nat):(qaj s x).length≤9:=by
 unfold qaj
 repeat' split
 all_goals simp[qp5]
theorem qmL (x:Nat):(qb8 x).length≤9:=by
 unfold qb8
 repeat' split
 all_goals simp[qp5]
theorem qnV (W:World)(base:Nat)(v u:Value)(F:Nat→Prop)(hF:∀k,F k→k<base)(bs l:List UInt8)(hl:bs.length≤999999999)(hl2:l.length≤999999999)(hu:qb1 W 5 1 F u l.length (l.map qav))(h:Own W base v bs):Calls prog 110 #[v,.iface 202 u] W fun e W'=>∃v',e=.returned v'∧Own W' base v' (bs++(qaj 2 l.length++l))∧Below base W W':=by
 obtain⟨i0,hi,hz0,hz1,hz2⟩:=info_parts Tryz.infoU8;obtain⟨ho,hb,a,n,c,rfl⟩:=h;have HOw:Hid (Own W base (.slice a n c) bs):=⟨ho,hb,a,n,c,rfl⟩
 have cH:Calls prog 163 #[.slice a n c,.int .u8 2,.int .u64 l.length] W fun e W'=>∃v',e=.returned v'∧Own W' base v' (bs++qaj 2 l.length)∧Below base W W':=qbl W base (.slice a n c) bs 2 l.length (by decide) (by omega) hl HOw.out;have hcl:(qaj 2 l.length).length≤9:=qnc _ _;rcases hu.2 with ⟨rfl,hn⟩|⟨g,cap,cur,rfl,hg1,hg2,hg3⟩
 ·have hnil:=List.eq_nil_of_length_eq_zero hn;rw[hn] at cH hcl;rw[hnil];have ta0:=qbL none 0 0;have ta1:=qb3 none 0 0;have ta2:=qbX none 0 0;have ta3:=qco none 0 0;go_enter func110,ntmps110
  go_wp2_with (first
   |(go_at_call 163;refine cH.mono ?_;rintro e w2 ⟨v2,rfl,h2,hB2⟩;obtain⟨o2,b2,a2,n2,c2,rfl⟩:=h2;have HO2:Hid (Own w2 base (.slice a2 n2 c2) (bs++qaj 2 0)):=⟨o2,b2,_,_,_,rfl⟩;have HB2:=qaa hB2)
   |(at_builtin;refine qce rfl _ _ 28 202 rfl base 5 i0 1 underlying28 underlying202 hi (.slice a2 n2 c2) _ _ rfl HO2.out.1 rfl ?_))
  go_ret;rw[List.append_nil];exact⟨_,rfl,HO2.out,HB2.out⟩
 have HU:=qaa hu;have ta0:=qbL (some ⟨g,0,none⟩) l.length cap;have ta1:=qb3 (some ⟨g,0,none⟩) l.length cap;have ta2:=qbX (some ⟨g,0,none⟩) l.length cap;have ta3:=qco (some ⟨g,0,none⟩) l.length cap;go_enter func110,ntmps110
 go_wp2_with (first
  |(go_at_call 163;refine cH.mono ?_;rintro e w2 ⟨v2,rfl,h2,hB2⟩;obtain⟨o2,b2,a2,n2,c2,rfl⟩:=h2;have HO2:Hid (Own w2 base (.slice a2 n2 c2) (bs++qaj 2 l.length)):=⟨o2,b2,_,_,_,rfl⟩;have HB2:=qaa hB2)
  |(at_builtin;refine qcr _ rfl _ _ 28 202 rfl base 5 i0 (.int .u8 0) 1 1 underlying28 underlying202 hi hz0 hz1 hz2 rfl (by decide) (.slice a2 n2 c2) _ _ rfl HO2.out.1 ⟨g,0,none⟩ l.length cap (l.map qav) rfl (by simp) (HU.out.same (G:=F) (fun k hk=>hk) (fun k hk=>HB2.out.block k (hF k hk))).cell (fun u hu=>by obtain⟨b,_,rfl⟩:=List.mem_map.mp hu;rfl) (by rw[List.length_append];unfold maxLen;omega) (by rw[List.length_append];omega) HO2.out.2.1 ?_;intro v' w5 hown' hgrow5;have HN:=qaa (qeY HO2.out hown' hgrow5)))
 go_ret;rw[List.append_assoc] at HN;exact⟨_,rfl,HN.out.1,HB2.out.trans HN.out.2⟩
theorem qoA (W:World)(base:Nat)(v u:Value)(F:Nat→Prop)(hF:∀k,F k→k<base)(bs l:List UInt8)(hl:bs.length≤999999999)(hl2:l.length≤999999999)(hu:qb1 W 5 1 F u l.length (l.map qav))(h:Own W base v bs):Calls prog 111 #[v,.iface 202 u] W fun e W'=>∃v',e=.returned v'∧Own W' base v' (bs++(qb8 l.length++l))∧Below base W W':=by
 obtain⟨i0,hi,hz0,hz1,hz2⟩:=info_parts Tryz.infoU8;obtain⟨ho,hb,a,n,c,rfl⟩:=h;have HOw:Hid (Own W base (.slice a n c) bs):=⟨ho,hb,a,n,c,rfl⟩
 have cH:=qnh W base (.slice a n c) bs l.length (by omega) hl HOw.out;have hcl:(qb8 l.length).length≤9:=qmL _;rcases hu.2 with ⟨rfl,hn⟩|⟨g,cap,cur,rfl,hg1,hg2,hg3⟩
 ·have hnil:=List.eq_nil_of_length_eq_zero hn;rw[hn] at cH hcl;rw[hnil];have ta0:=qbL none 0 0;have ta1:=qb3 none 0 0;have ta2:=qbX none 0 0;have ta3:=qco none 0 0;go_enter func111,ntmps111
  go_wp2_with (first
   |(go_at_call 168;refine cH.mono ?_;rintro e w2 ⟨v2,rfl,h2,hB2⟩;obtain⟨o2,b2,a2,n2,c2,rfl⟩:=h2;have HO2:Hid (Own w2 base (.slice a2 n2 c2) (bs++qb8 0)):=⟨o2,b2,_,_,_,rfl⟩;have HB2:=qaa hB2)
   |(at_builtin;refine qce rfl _ _ 28 202 rfl base 5 i0 1 underlying28 underlying202 hi (.slice a2 n2 c2) _ _ rfl HO2.out.1 rfl ?_))
  go_ret;rw[List.append_nil];exact⟨_,rfl,HO2.out,HB2.out⟩
 have HU:=qaa hu;have ta0:=qbL (some ⟨g,0,none⟩) l.length cap;have ta1:=qb3 (some ⟨g,0,none⟩) l.length cap;have ta2:=qbX (some ⟨g,0,none⟩) l.length cap;have ta3:=qco (some ⟨g,0,none⟩) l.length cap;go_enter func111,ntmps111
 go_wp2_with (first
  |(go_at_call 168;refine cH.mono ?_;rintro e w2 ⟨v2,rfl,h2,hB2⟩;obtain⟨o2,b2,a2,n2,c2,rfl⟩:=h2;have HO2:Hid (Own w2 base (.slice a2 n2 c2) (bs++qb8 l.length)):=⟨o2,b2,_,_,_,rfl⟩;have HB2:=qaa hB2)
  |(at_builtin;refine qcr _ rfl _ _ 28 202 rfl base 5 i0 (.int .u8 0) 1 1 underlying28 underlying202 hi hz0 hz1 hz2 rfl (by decide) (.slice a2 n2 c2) _ _ rfl HO2.out.1 ⟨g,0,none⟩ l.length cap (l.map qav) rfl (by simp) (HU.out.same (G:=F) (fun k hk=>hk) (fun k hk=>HB2.out.block k (hF k hk))).cell (fun u hu=>by obtain⟨b,_,rfl⟩:=List.mem_map.mp hu;rfl) (by rw[List.length_append];unfold maxLen;omega) (by rw[List.length_append];omega) HO2.out.2.1 ?_;intro v' w5 hown' hgrow5;have HN:=qaa (qeY HO2.out hown' hgrow5)))
 go_ret;rw[List.append_assoc] at HN;exact⟨_,rfl,HN.out.1,HB2.out.trans HN.out.2⟩
def qbQ (W:World)(base:Nat)(x:Value)(ys:List UInt8):Prop:=∀(V:World) (v:Value) (bs:List UInt8),Below base W V→Own V base v bs→bs.length+ys.length≤999999999→Calls prog 110 #[v,x] V fun e W'=>∃v',e=.returned v'∧Own W' base v' (bs++ys)∧Below base V W'
theorem qqx (T:DataW Unit→List UInt8)(W:World)(base:Nat)(v u:Value)(F:Nat→Prop)(hF:∀k,F k→k<base)(bs:List UInt8)(ds:List (DataW Unit))(xs:List Value)(hl:bs.length+((qaj 4 ds.length)++ds.flatMap T).length≤999999999)(hn:ds.length≤999999999)(hu:qb1 W 81 1 F u ds.length xs)(hit:∀(i:Nat) (x:Value) (d:DataW Unit),xs[i]? = some x→ds[i]? = some d→qbQ W base x (T d))(hif:∀(i:Nat) (x:Value),xs[i]? = some x→∃t y,x=.iface t y)(h:Own W base v bs):Calls prog 110 #[v,.iface 204 u] W fun e W'=>∃v',e=.returned v'∧Own W' base v' (bs++(qaj 4 ds.length++ds.flatMap T))∧Below base W W':=by
 have hl1:bs.length≤999999999:=by omega
 obtain⟨ho,hb,a,n,c,rfl⟩:=h;have HOw:Hid (Own W base (.slice a n c) bs):=⟨ho,hb,a,n,c,rfl⟩
 have cH:Calls prog 163 #[.slice a n c,.int .u8 4,.int .u64 ds.length] W fun e W'=>∃v',e=.returned v'∧Own W' base v' (bs++qaj 4 ds.length)∧Below base W W':=qbl W base (.slice a n c) bs 4 ds.length (by decide) (by omega) hl1 HOw.out;obtain⟨q,cap,rfl⟩:∃q cap,u=.slice q ds.length cap:=by
  rcases hu.2 with ⟨e,e2⟩|⟨g,cap,cur,e,_⟩
  ·exact⟨none,0,by rw[e,e2]⟩
  exact⟨_,_,e⟩
 have HU:=qaa hu;have HI:=qaa hit;have HL:=qaa hl;have HF:=qaa hif;have ta0:=qdI q ds.length cap;have ta1:=qda q ds.length cap;have ta2:=qeI q ds.length cap;have ta3:=qg1 q ds.length cap;have ta4:=qeC q ds.length cap;go_enter func110,ntmps110
 go_wp2_with (first
  |(go_at_call 163;refine cH.mono ?_;rintro e w2 ⟨v2,rfl,h2,hB2⟩;obtain⟨o2,b2,a2,n2,c2,rfl⟩:=h2;have HO2:Hid (Own w2 base (.slice a2 n2 c2) (bs++qaj 4 ds.length)):=⟨o2,b2,_,_,_,rfl⟩;have HB2:=qaa hB2))
 go_loopg [0,64,11] ds.length (fun g y z x wr=>∃(k:Nat) (a3:Option Addr) (n3 c3:Nat),y=.slice a3 n3 c3∧z=.int .i64 k∧Hid (k+g=ds.length)∧Hid (Own wr base (.slice a3 n3 c3) ((bs++qaj 4 ds.length)++(ds.take k).flatMap T))∧Hid (Below base W wr))
 case atStart=>exact⟨0,a2,n2,c2,rfl,rfl,by show _=_;omega,by simpa using HO2,HB2⟩
 case round =>
  obtain⟨k,a3,n3,c3,rfl,rfl,hk,HO3,HB3⟩:=hrel
  cases gk with
  |zero =>
   have hlt:¬(k:Int)<ds.length:=by have:=hk.out;omega
   have HT:Hid (ds.take k=ds):=by show _=_;exact List.take_of_length_le (by have:=hk.out;omega)
   go_wp2;go_ret;have h3:=HO3.out;rw[HT.out,List.append_assoc] at h3;exact⟨_,rfl,h3,HB3.out⟩
  |succ g =>
   have hkn:k<ds.length:=by have:=hk.out;omega
   have hlt:(k:Int)<ds.length:=by omega
   have HR:=HU.out.same (V':=wr) (G:=F) (fun _ h=>h) (fun j hj=>HB3.out.block j (hF j hj));obtain⟨q0,rfl⟩:∃q0,q=some ⟨q0,0,none⟩:=by
    rcases HR.2 with ⟨_,e⟩|⟨g,cap',cur,e,_⟩
    ·omega
    injection e with e1 e2 e3;exact⟨g,e1⟩
   have hxl:xs.length=ds.length:=by have:=HR.1;omega
   obtain⟨x,hx⟩:∃x,xs[k]? = some x:=⟨xs[k],List.getElem?_eq_getElem (by omega)⟩
   obtain⟨d,hd⟩:∃d,ds[k]? = some d:=⟨ds[k],List.getElem?_eq_getElem hkn⟩
   obtain⟨tx,yx,rfl⟩:=HF.out k x hx;have hc:wr.cell? ⟨q0,k,none⟩=some (.iface tx yx):=by
    have:=HR.cell k _ hx;have e:(⟨q0,0,none⟩:Addr).add k=⟨q0,k,none⟩:=by by_cases h:k=0<;>simp[Addr.add,h]
    rwa [e] at this
   have HT:Hid ((ds.take (k+1)).flatMap T=(ds.take k).flatMap T++T d):=by
    show _=_;rw[List.take_add_one,hd];simp
   have HB:Hid (((bs++qaj 4 ds.length)++(ds.take k).flatMap T).length+(T d).length≤999999999):=by
    show _≤_;have h1:=HL.out;have h2:(ds.flatMap T).length=((ds.take (k+1)).flatMap T).length+((ds.drop (k+1)).flatMap T).length:=by
     rw[←List.length_append,←List.flatMap_append,List.take_append_drop]
    rw[HT.out] at h2;simp only[List.length_append] at h1 h2 ⊢;omega
   have cI:=HI.out k _ d hx hd wr _ _ HB3.out HO3.out HB.out
   go_wp2_with (first
    |(go_at_call 110;refine cI.mono ?_;rintro e w4 ⟨v4,rfl,h4,hB4⟩;obtain⟨o4,b4,a4,n4,c4,rfl⟩:=h4;have HO4:Hid (Own w4 base (.slice a4 n4 c4) (((bs++qaj 4 ds.length)++(ds.take k).flatMap T)++T d)):=⟨o4,b4,_,_,_,rfl⟩;have HB4:=qaa (HB3.out.trans hB4)))
   go_roundg g
   case measure=>omega
   case rel=>exact⟨k+1,a4,n4,c4,rfl,by go_num,by show _=_;have:=hk.out;omega,by show Own _ _ _ _;rw[HT.out,←List.append_assoc];exact HO4.out,HB4⟩
def qbS (W:World)(base:Nat)(x:Value)(ys:List UInt8):Prop:=∀(V:World) (v:Value) (bs:List UInt8),Below base W V→Own V base v bs→bs.length+ys.length≤999999999→Calls prog 111 #[v,x] V fun e W'=>∃v',e=.returned v'∧Own W' base v' (bs++ys)∧Below base V W'
theorem qrk (T:DataW Unit→List UInt8)(W:World)(base:Nat)(v u:Value)(F:Nat→Prop)(hF:∀k,F k→k<base)(bs:List UInt8)(ds:List (DataW Unit))(xs:List Value)(hl:bs.length+((qbB ds.length)++ds.flatMap T).length≤999999999)(hn:ds.length≤999999999)(hu:qb1 W 81 1 F u ds.length xs)(hit:∀(i:Nat) (x:Value) (d:DataW Unit),xs[i]? = some x→ds[i]? = some d→qbS W base x (T d))(hif:∀(i:Nat) (x:Value),xs[i]? = some x→∃t y,x=.iface t y)(h:Own W base v bs):Calls prog 111 #[v,.iface 204 u] W fun e W'=>∃v',e=.returned v'∧Own W' base v' (bs++(qbB ds.length++ds.flatMap T))∧Below base W W':=by
 have hl1:bs.length≤999999999:=by omega
 obtain⟨ho,hb,a,n,c,rfl⟩:=h;have HOw:Hid (Own W base (.slice a n c) bs):=⟨ho,hb,a,n,c,rfl⟩
 have cH:=qmr W base (.slice a n c) bs ds.length (by omega) hl1 HOw.out;obtain⟨q,cap,rfl⟩:∃q cap,u=.slice q ds.length cap:=by
  rcases hu.2 with ⟨e,e2⟩|⟨g,cap,cur,e,_⟩
  ·exact⟨none,0,by rw[e,e2]⟩
  exact⟨_,_,e⟩
 have HU:=qaa hu;have HI:=qaa hit;have HL:=qaa hl;have HF:=qaa hif;have ta0:=qdI q ds.length cap;have ta1:=qda q ds.length cap;have ta2:=qeI q ds.length cap;have ta3:=qg1 q ds.length cap;have ta4:=qeC q ds.length cap;go_enter func111,ntmps111
 go_wp2_with (first
  |(go_at_call 169;refine cH.mono ?_;rintro e w2 ⟨v2,rfl,h2,hB2⟩;obtain⟨o2,b2,a2,n2,c2,rfl⟩:=h2;have HO2:Hid (Own w2 base (.slice a2 n2 c2) (bs++qbB ds.length)):=⟨o2,b2,_,_,_,rfl⟩;have HB2:=qaa hB2))
 go_loopg [0,64,11] ds.length (fun g y z x wr=>∃(k:Nat) (a3:Option Addr) (n3 c3:Nat),y=.slice a3 n3 c3∧z=.int .i64 k∧Hid (k+g=ds.length)∧Hid (Own wr base (.slice a3 n3 c3) ((bs++qbB ds.length)++(ds.take k).flatMap T))∧Hid (Below base W wr))
 case atStart=>exact⟨0,a2,n2,c2,rfl,rfl,by show _=_;omega,by simpa using HO2,HB2⟩
 case round =>
  obtain⟨k,a3,n3,c3,rfl,rfl,hk,HO3,HB3⟩:=hrel
  cases gk with
  |zero =>
   have hlt:¬(k:Int)<ds.length:=by have:=hk.out;omega
   have HT:Hid (ds.take k=ds):=by show _=_;exact List.take_of_length_le (by have:=hk.out;omega)
   go_wp2;go_ret;have h3:=HO3.out;rw[HT.out,List.append_assoc] at h3;exact⟨_,rfl,h3,HB3.out⟩
  |succ g =>
   have hkn:k<ds.length:=by have:=hk.out;omega
   have hlt:(k:Int)<ds.length:=by omega
   have HR:=HU.out.same (V':=wr) (G:=F) (fun _ h=>h) (fun j hj=>HB3.out.block j (hF j hj));obtain⟨q0,rfl⟩:∃q0,q=some ⟨q0,0,none⟩:=by
    rcases HR.2 with ⟨_,e⟩|⟨g,cap',cur,e,_⟩
    ·omega
    injection e with e1 e2 e3;exact⟨g,e1⟩
   have hxl:xs.length=ds.length:=by have:=HR.1;omega
   obtain⟨x,hx⟩:∃x,xs[k]? = some x:=⟨xs[k],List.getElem?_eq_getElem (by omega)⟩
   obtain⟨d,hd⟩:∃d,ds[k]? = some d:=⟨ds[k],List.getElem?_eq_getElem hkn⟩
   obtain⟨tx,yx,rfl⟩:=HF.out k x hx;have hc:wr.cell? ⟨q0,k,none⟩=some (.iface tx yx):=by
    have:=HR.cell k _ hx;have e:(⟨q0,0,none⟩:Addr).add k=⟨q0,k,none⟩:=by by_cases h:k=0<;>simp[Addr.add,h]
    rwa [e] at this
   have HT:Hid ((ds.take (k+1)).flatMap T=(ds.take k).flatMap T++T d):=by
    show _=_;rw[List.take_add_one,hd];simp
   have HB:Hid (((bs++qbB ds.length)++(ds.take k).flatMap T).length+(T d).length≤999999999):=by
    show _≤_;have h1:=HL.out;have h2:(ds.flatMap T).length=((ds.take (k+1)).flatMap T).length+((ds.drop (k+1)).flatMap T).length:=by
     rw[←List.length_append,←List.flatMap_append,List.take_append_drop]
    rw[HT.out] at h2;simp only[List.length_append] at h1 h2 ⊢;omega
   have cI:=HI.out k _ d hx hd wr _ _ HB3.out HO3.out HB.out
   go_wp2_with (first
    |(go_at_call 111;refine cI.mono ?_;rintro e w4 ⟨v4,rfl,h4,hB4⟩;obtain⟨o4,b4,a4,n4,c4,rfl⟩:=h4;have HO4:Hid (Own w4 base (.slice a4 n4 c4) (((bs++qbB ds.length)++(ds.take k).flatMap T)++T d)):=⟨o4,b4,_,_,_,rfl⟩;have HB4:=qaa (HB3.out.trans hB4)))
   go_roundg g
   case measure=>omega
   case rel=>exact⟨k+1,a4,n4,c4,rfl,by go_num,by show _=_;have:=hk.out;omega,by show Own _ _ _ _;rw[HT.out,←List.append_assoc];exact HO4.out,HB4⟩
end
end Go.Proofs.YtllcbnfmihfaaaaGreatDoor
