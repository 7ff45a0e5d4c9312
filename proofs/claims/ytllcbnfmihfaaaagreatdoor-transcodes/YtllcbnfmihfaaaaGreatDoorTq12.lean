import Derived.ProofKit
import Derived.OpenShut
import Derived.Deep.Slices
import Derived.SizedLaws
import Derived.Lib.LaidU8T
import Derived.PinnedBridge
import Derived.Test.YtllcbnfmihfaaaaGreatDoorCards
import Derived.Test.YtllcbnfmihfaaaaGreatDoorTie
import Derived.Carry
import Derived.Deep.DeepHandedRow
import Derived.Lib.LaidTab
import Derived.Lib.IndexLaws
import Derived.Lib.IndexMore
import Derived.RangeFuncOwn
import Derived.RangeFuncFrom
import Derived.Below
import Derived.RangeFuncBound
import Derived.RangeFuncCalls
import Derived.RangeFuncLeaves
import Derived.Shelf.Abstract
import Derived.OwnWalkIn
import Derived.TacticsInMore
import Derived.LoopNIn
import Derived.LoopIn
import Derived.Sort.LoopGhostIn
import Derived.Lib.Strings
import Derived.Lib.IndexBytes
import Derived.Test.YtllcbnfmihfaaaaGreatDoorTq11
set_option maxRecDepth 100000
set_option maxHeartbeats 8000000
namespace Go.Proofs.YtllcbnfmihfaaaaGreatDoor
open Go.Proofs.Tryz
variable {V W w:World}{v:Value}{fuel n:Nat}{cs:List Value}{sp:Nat→Bool}{P:Program}
section
open Go.RowKit Go.Deep
theorem qcU:prog.cellsOf 3=1:=by kernel_rfl
theorem qmb:prog.cellsOf 9=1:=by kernel_rfl
theorem q6i:prog.cellsOf 72=1:=by kernel_rfl
theorem q3y:prog.cellsOf 74=7:=by kernel_rfl
theorem qjN {a:Addr}(h:w.cell? (a.add 0)=some v):∃b off,a=⟨b,off,none⟩∧b<w.heap.size:=by
 obtain⟨b,off,spot⟩:=a;have hspot:spot=none:=by simpa [Addr.add] using World.cell?_spot h
 subst hspot;rw[qcn] at h;exact⟨b,off,rfl,block_lt_of_cell h⟩
theorem qsb {α:Type}{l:List α}(h:l.length=2):∃a b,l=[a,b]:=by
 match l,h with
 |[a,b],_=>exact⟨a,b,rfl⟩
section
variable {H:Type} {enc:TypeId×Value→H} {w:World}
theorem qm6 {xs:List (DataW H×List MemPlace)}{fs:Array Field}(hf:∀(i:Nat) (f:Field),fs[i]? = some f→DataW.trod enc prog w 0 (fun _=>true) true n f.type ((cs.drop f.offset).take (prog.cellsOf f.type))=xs[i]?)(i:Nat){f:Field}(h:fs[i]? = some f)(t:TypeId)(o:Nat)(ht:f.type=t)(ho:f.offset=o)(hc:prog.cellsOf t=1)(hv:cs[o]? = some v){y:DataW H×List MemPlace}(hy:xs[i]? = some y):DataW.trod enc prog w 0 (fun _=>true) true n t [v]=some y:=by
 subst ht ho;have g:=hf i f h;rw[hc,hy] at g;have e:(cs.drop f.offset).take 1=[v]:=by
  rw[List.getElem?_eq_some_iff] at hv;obtain⟨hl,rfl⟩:=hv;rw[List.drop_eq_getElem_cons hl];rfl
 rwa [e] at g
theorem q5n {t e:TypeId}(ht:prog.underlying t=some (.slice e)){x:DataW H×List MemPlace}(h:DataW.trod enc prog w 0 (fun _=>true) true fuel t [v]=some x):∃(a:Option Addr) (n cap:Nat),v=.slice a n cap:=by
 rcases open_slice ht h with ⟨hv,_⟩|⟨a,len,cap,m,n,D,Pl,hv,_⟩
 ·cases hv;exact⟨none,0,0,rfl⟩
 cases hv;exact⟨some a,len,cap,rfl⟩
end
end
section
open Go.RowKit Go.Deep Go.Shelf Go.Lib
def op0:OpD:=⟨0,0,0,0,0,ByteArray.empty,none,0,0⟩
section
variable {H:Type} {enc:TypeId×Value→H} {w:World}
end
theorem Tryz.gSignsT:(prog.globals[2]?).map (·.type)=some 337:=by kernel_rfl
theorem Tryz.x8:U8Extra prog Tryz.lays196_ren:=⟨by kernel_rfl,by kernel_rfl,by kernel_rfl,by kernel_rfl,by kernel_rfl,by kernel_rfl,by kernel_rfl⟩
theorem qiP:prog.cellsOf 336=2:=by kernel_rfl
theorem qoL:prog.cellsOf 233=1:=by kernel_rfl
theorem qmE:prog.cellsOf 337=6:=by kernel_rfl
theorem qlf {held:Bool}{b:List UInt8}{k:Int}{p:List MemPlace}(h:DataW.trod (fun _=>()) prog W 0 sp held fuel 336 cs=some (.agg [.lit (.string b),.lit (.int .i64 k)],p)):cs=[.string ⟨b.toArray⟩,.int .i64 k]:=by
 obtain⟨xs,n,_,hx,hl,hlen,hf⟩:=DataW.trod_struct underlying336 h;rw[qiP] at hl;have hxl:xs.length=2:=hlen;obtain⟨v0,v1,rfl⟩:=qsb hl;obtain⟨y0,y1,rfl⟩:=qsb hxl;have t0:DataW.trod (fun _=>()) prog W 0 sp held n 9 (([v0,v1].drop 0).take (prog.cellsOf 9))=some y0:=hf 0 _ rfl;have t1:DataW.trod (fun _=>()) prog W 0 sp held n 233 (([v0,v1].drop 1).take (prog.cellsOf 233))=some y1:=hf 1 _ rfl;rw[qmb] at t0;rw[qoL] at t1;obtain⟨s0,e0,hy0⟩:=DataW.trod_string underlying9 t0;obtain⟨z1,e1,hy1⟩:=DataW.trod_int underlying233 t1;simp at e0 e1;subst e0 e1;obtain⟨rfl,_⟩:=hy0;obtain⟨rfl,_⟩:=hy1;simp only[List.map_cons,List.map_nil,Prod.mk.injEq,DataW.agg.injEq,List.cons.injEq,DataW.lit.injEq,Lit.string.injEq,Lit.int.injEq,and_true,true_and] at hx;obtain⟨⟨rfl,rfl⟩,_⟩:=hx;simp
theorem qtW {H:Type}{enc:TypeId×Value→H}{base:Nat}{held:Bool}{t e:TypeId}{x:DataW H×List MemPlace}(ht:P.underlying t=some (.array n e))(h:DataW.trod enc P w base sp held fuel t cs=some x):cs.length=P.cellsOf t:=by
 cases fuel with
 |zero=>simp[DataW.trod] at h
 |succ fuel =>
  simp only[DataW.trod,ht] at h;split at h
  ·next hh=>simpa using hh
  cases h
theorem six (hl:cs.length=6){a0 a1 b0 b1 c0 c1:Value}(h0:(cs.drop (0*2)).take 2=[a0,a1])(h1:(cs.drop (1*2)).take 2=[b0,b1])(h2:(cs.drop (2*2)).take 2=[c0,c1]):cs=[a0,a1,b0,b1,c0,c1]:=by
 match cs,hl with
 |[x0,x1,x2,x3,x4,x5],_ =>
  simp at h0 h1 h2;obtain⟨rfl,rfl⟩:=h0;obtain⟨rfl,rfl⟩:=h1;obtain⟨rfl,rfl⟩:=h2;rfl
theorem qpC (hL:laidMetH prog Rows.checksRow.laid W)(hS:W.ShapedOpen prog):qlZ W:=by
 have hL':laidMet prog Rows.checksRow.laid W:=hL;refine⟨?_,?_,Tryz.laysM145.s1_3 W hS⟩
 ·obtain⟨g,t,cs,fuel,p,hg,hty,hvar,hd⟩:=laidMet.reads hL' (d:=Rows.laid_redact_policy_signs) (.tail _ (.tail _ (.tail _ (.tail _ (.tail _ (.tail _ (.head _)))))));obtain rfl:g=2:=Option.some.inj (hg.symm.trans (by kernel_rfl));obtain rfl:=Option.some.inj (Tryz.gSignsT.symm.trans hty);have hd':DataW.trod (fun _=>()) prog W 0 (fun _=>true) false fuel 337 cs.toList=some (.agg [.agg [.lit (.string [42]),.lit (.int .i64 0)],.agg [.lit (.string [42,42]),.lit (.int .i64 1)],.agg [.lit (.string [91,93]),.lit (.int .i64 2)]],p):=hd;obtain⟨f0,d0,q0,hd0,h0⟩:=array_elem underlying337 hd' 0 (by omega);obtain⟨f1,d1,q1,hd1,h1⟩:=array_elem underlying337 hd' 1 (by omega);obtain⟨f2,d2,q2,hd2,h2⟩:=array_elem underlying337 hd' 2 (by omega);cases hd0;cases hd1;cases hd2;have r0:=qlf h0;have r1:=qlf h1;have r2:=qlf h2;rw[qiP] at r0 r1 r2;have hcl:=(qtW underlying337 hd').trans qmE;have hcs:=six hcl r0 r1 r2;unfold World.var? at hvar;rw[hg] at hvar;simp only[Option.bind_some] at hvar;split at hvar
  ·next cs' t fr hh =>
   cases hvar;refine⟨t,fr,?_⟩;rw[hh];have:cs=[Value.string ⟨[42].toArray⟩,.int .i64 0,.string ⟨[42,42].toArray⟩,.int .i64 1,.string ⟨[91,93].toArray⟩,.int .i64 2].toArray:=by rw[←hcs]
   rw[this]
  cases hvar
 refine utf8Tabs_of_readsT (U8Types.of196 Tryz.lays196) Tryz.x8 ?_ ?_
 ·rw[←Pinned.utf8First_eq];exact laidMet.reads hL' (.tail _ (.tail _ (.tail _ (.tail _ (.tail _ (.tail _ (.tail _ (.head _))))))))
 have e:(Rows.laid_unicode_utf8_acceptRanges:DataW Unit)=acceptData:=by kernel_rfl
 have hr:=laidMet.reads hL' (d:=Rows.laid_unicode_utf8_acceptRanges) (.tail _ (.tail _ (.tail _ (.head _))));rw[e] at hr;exact hr
end
section
open Go.ChangeShapes Go.WideShapes Go.ChangeAt Go.RowKit Go.Lib
theorem Tryz.own:ownKnob prog.godebug=none:=by kernel_rfl
theorem Tryz.laidOut:laidOutB prog=true:=by kernel_rfl
def qhX:Nat→DataW Unit→List Value
 |0,_=>[]
 |_+1,.lit (.int k z)=>[.int k z]
 |_+1,.lit (.string b)=>[.string ⟨b.toArray⟩]
 |n+1,.agg ds=>ds.flatMap (qhX n)
 |_+1,_=>[]
def qdl (h:Array Obj)(g:Nat)(cs:Array Value):Array Obj:=h.modify g fun
 |.cells _ t frozen=>.cells cs t frozen
 |o=>o
def quD (w0:World):World :=
 let h0:=qdl w0.heap 7 (qhX 5 Rows.laid_math_bits_deBruijn32tab).toArray
 let h1:=qdl h0 8 (qhX 5 Rows.laid_math_bits_deBruijn64tab).toArray
 let h2:=qdl h1 6 (qhX 5 Rows.laid_internal_strconv_uint64pow10).toArray
 let h3:=qdl h2 5 (qhX 5 Rows.laid_unicode_utf8_acceptRanges).toArray
 let h4:=qdl h3 0 (qhX 5 Rows.laid_redact_reading_cborSorts).toArray
 let h5:=qdl h4 1 (qhX 5 Rows.laid_redact_reading_packHeads).toArray
 let h6:=qdl h5 2 (qhX 5 Rows.laid_redact_policy_signs).toArray
 let h7:=qdl h6 4 (qhX 5 Rows.laid_unicode_utf8_first).toArray
 {w0 with heap:=h7}
theorem q4M (os:Os):laidMet prog Rows.checksRow.laid ((quD (World.holding prog os ⟨#[],#[],[]⟩)).forCall (fun _ _=>0) ⟨#[],#[.slice none 0 0,.slice none 0 0],[]⟩).memory :=
 laidMet_of_run' 8 (by kernel_rfl) (by kernel_rfl)
end
section
open Go.RowKit
theorem qdh.of (h:qdh W)(hk:∀k,k<W.heap.size→k≤1→V.heap[k]? = W.heap[k]?):qdh V:=by
 have hc:∀(g off:Nat) (v:Value),g≤1→W.cell? ⟨g,off,none⟩=some v→V.cell? ⟨g,off,none⟩=some v:=fun g off v hg hv=>(World.cell?_of_block (w:=W) (hk g (block_lt_of_cell hv) hg)).trans hv;refine⟨fun u hu=>hc _ _ _ (by decide) (h.cb u hu),fun u hu => ?_⟩;obtain⟨h1,h2,h3⟩:=h.pk u hu;exact⟨hc _ _ _ (by decide) h1,hc _ _ _ (by decide) h2,hc _ _ _ (by decide) h3⟩
theorem qdh.lt (h:qdh W):1<W.heap.size:=block_lt_of_cell (h.pk 0 (by decide)).1
theorem qdh.below (h:qdh W)(hb:Below W.heap.size W V):qdh V:=h.of fun k hk _=>hb.block k hk
theorem qdh.but {b:Nat}(h:qdh W)(hb:But b W V)(hn:1<b):qdh V:=h.of fun k hk h1=>hb.block k hk (by omega)
theorem qgH (W:World)(ia:Option Addr)(bs:List UInt8)(cap:Nat)(d l:Int)(h:qa4 W ia bs):Calls prog 65 #[.int .i64 2,.agg #[.int .i64 d,.int .i64 l],.slice ia bs.length cap] W fun e W' =>
   ∃b,e=.returned (.iface 201 (.agg #[.pointer (some ⟨b,0,none⟩),.func (.func 107) #[] #[]]))∧qad W' b ⟨ia,bs,cap,d,l,0,0⟩∧W.heap.size≤b∧Below W.heap.size W W':=by
 have HB:=qaa h;go_enter func65,ntmps65;go_wp2;go_ret;have hb:Below W.heap.size W ((W.alloc (.cells #[.int .i64 d,.int .i64 l] 86)).alloc (.cells #[.slice ia bs.length cap,.int .i64 d,.int .i64 l,.int .i64 0,.int .i64 0] 196)):=(bwA).alloc (by simp) _;have hr:=qac (W.alloc (.cells #[.int .i64 d,.int .i64 l] 86)) (.cells #[.slice ia bs.length cap,.int .i64 d,.int .i64 l,.int .i64 0,.int .i64 0] 196);rw[World.size_alloc] at hr;exact⟨W.heap.size+1,rfl,qkI HB.out hb (by omega) hr,by omega,hb⟩
theorem qgP (W:World)(ia:Option Addr)(bs:List UInt8)(cap:Nat)(d l:Int)(h:qa4 W ia bs):Calls prog 65 #[.int .i64 3,.agg #[.int .i64 d,.int .i64 l],.slice ia bs.length cap] W fun e W' =>
   ∃b,e=.returned (.iface 201 (.agg #[.pointer (some ⟨b,0,none⟩),.func (.func 108) #[] #[]]))∧qad W' b ⟨ia,bs,cap,d,l,0,0⟩∧W.heap.size≤b∧Below W.heap.size W W':=by
 have HB:=qaa h;go_enter func65,ntmps65;go_wp2;go_ret;have hb:Below W.heap.size W ((W.alloc (.cells #[.int .i64 d,.int .i64 l] 86)).alloc (.cells #[.slice ia bs.length cap,.int .i64 d,.int .i64 l,.int .i64 0,.int .i64 0] 196)):=(bwA).alloc (by simp) _;have hr:=qac (W.alloc (.cells #[.int .i64 d,.int .i64 l] 86)) (.cells #[.slice ia bs.length cap,.int .i64 d,.int .i64 l,.int .i64 0,.int .i64 0] 196);rw[World.size_alloc] at hr;exact⟨W.heap.size+1,rfl,qkI HB.out hb (by omega) hr,by omega,hb⟩
theorem qei (W:World)(b:Nat):Calls prog 291 #[.pointer (some ⟨b,0,none⟩)] W fun e W'=>e=.returned (.tuple #[])∧W'=W:=by
 go_enter func291,ntmps291;go_wp2;go_end0;exact⟨rfl,rfl⟩
end
section
open Go.RowKit Go.Lib
def qkn:Nat→DataW Unit→Bool
 |0,_=>false
 |k+1,d=>match d with
  |.ptr (.lit (.string _))=>true
  |.agg ds=>ds.any (qkn k)
  |.map es=>es.any fun e=>qkn k e.2
  |_=>false
theorem qgN  : ∀w:World,(Instr.typeAssert (.iface 247 (.agg #[])) 81 202 true).run prog w=.ok (.tuple #[.slice none 0 0,.bool false]) w:=fun w=>by kernel_rfl
theorem qen  : ∀w:World,(Instr.typeAssert (.iface 247 (.agg #[])) 81 204 true).run prog w=.ok (.tuple #[.slice none 0 0,.bool false]) w:=fun w=>by kernel_rfl
theorem qeW  : ∀w:World,(Instr.typeAssert (.iface 247 (.agg #[])) 81 206 true).run prog w=.ok (.tuple #[.slice none 0 0,.bool false]) w:=fun w=>by kernel_rfl
theorem qjt (b:Bool):∀w:World,(Instr.typeAssert (.iface 277 (.bool b)) 81 202 true).run prog w=.ok (.tuple #[.slice none 0 0,.bool false]) w:=fun w=>by kernel_rfl
theorem qfB (b:Bool):∀w:World,(Instr.typeAssert (.iface 277 (.bool b)) 81 204 true).run prog w=.ok (.tuple #[.slice none 0 0,.bool false]) w:=fun w=>by kernel_rfl
theorem qhc (b:Bool):∀w:World,(Instr.typeAssert (.iface 277 (.bool b)) 81 206 true).run prog w=.ok (.tuple #[.slice none 0 0,.bool false]) w:=fun w=>by kernel_rfl
theorem qiz (z:Int):∀w:World,(Instr.typeAssert (.iface 279 (.int .i64 z)) 81 202 true).run prog w=.ok (.tuple #[.slice none 0 0,.bool false]) w:=fun w=>by kernel_rfl
theorem qeS (z:Int):∀w:World,(Instr.typeAssert (.iface 279 (.int .i64 z)) 81 204 true).run prog w=.ok (.tuple #[.slice none 0 0,.bool false]) w:=fun w=>by kernel_rfl
theorem qfC (z:Int):∀w:World,(Instr.typeAssert (.iface 279 (.int .i64 z)) 81 206 true).run prog w=.ok (.tuple #[.slice none 0 0,.bool false]) w:=fun w=>by kernel_rfl
theorem qkH (s:ByteArray):∀w:World,(Instr.typeAssert (.iface 281 (.string s)) 81 202 true).run prog w=.ok (.tuple #[.slice none 0 0,.bool false]) w:=fun w=>by kernel_rfl
theorem qhp (s:ByteArray):∀w:World,(Instr.typeAssert (.iface 281 (.string s)) 81 204 true).run prog w=.ok (.tuple #[.slice none 0 0,.bool false]) w:=fun w=>by kernel_rfl
theorem qkf (s:ByteArray):∀w:World,(Instr.typeAssert (.iface 281 (.string s)) 81 206 true).run prog w=.ok (.tuple #[.slice none 0 0,.bool false]) w:=fun w=>by kernel_rfl
theorem qjK (a:Option Addr)(n c:Nat):∀w:World,(Instr.typeAssert (.iface 202 (.slice a n c)) 81 202 true).run prog w=.ok (.tuple #[.slice a n c,.bool true]) w:=fun w=>by kernel_rfl
theorem qk5 (a:Option Addr)(n c:Nat):∀w:World,(Instr.typeAssert (.iface 204 (.slice a n c)) 81 202 true).run prog w=.ok (.tuple #[.slice none 0 0,.bool false]) w:=fun w=>by kernel_rfl
theorem qho (a:Option Addr)(n c:Nat):∀w:World,(Instr.typeAssert (.iface 204 (.slice a n c)) 81 204 true).run prog w=.ok (.tuple #[.slice a n c,.bool true]) w:=fun w=>by kernel_rfl
theorem qmG (a:Option Addr)(n c:Nat):∀w:World,(Instr.typeAssert (.iface 206 (.slice a n c)) 81 202 true).run prog w=.ok (.tuple #[.slice none 0 0,.bool false]) w:=fun w=>by kernel_rfl
theorem qjk (a:Option Addr)(n c:Nat):∀w:World,(Instr.typeAssert (.iface 206 (.slice a n c)) 81 204 true).run prog w=.ok (.tuple #[.slice none 0 0,.bool false]) w:=fun w=>by kernel_rfl
theorem qmd (a:Option Addr)(n c:Nat):∀w:World,(Instr.typeAssert (.iface 206 (.slice a n c)) 81 206 true).run prog w=.ok (.tuple #[.slice a n c,.bool true]) w:=fun w=>by kernel_rfl
theorem qmZ (W:World):Calls prog 66 #[.iface 247 (.agg #[])] W fun e W'=>e=.returned (.bool false)∧Below W.heap.size W W':=by
 have ta0:=qgN;have ta1:=qen;have ta2:=qeW;go_enter func66,ntmps66;go_wp2;go_ret;exact⟨rfl,Below.refl _ _⟩
theorem qr3 (W:World)(b:Bool):Calls prog 66 #[.iface 277 (.bool b)] W fun e W'=>e=.returned (.bool false)∧Below W.heap.size W W':=by
 have ta0:=qjt b;have ta1:=qfB b;have ta2:=qhc b;go_enter func66,ntmps66;go_wp2;go_ret;exact⟨rfl,Below.refl _ _⟩
theorem qp0 (W:World)(z:Int):Calls prog 66 #[.iface 279 (.int .i64 z)] W fun e W'=>e=.returned (.bool false)∧Below W.heap.size W W':=by
 have ta0:=qiz z;have ta1:=qeS z;have ta2:=qfC z;go_enter func66,ntmps66;go_wp2;go_ret;exact⟨rfl,Below.refl _ _⟩
theorem quz (W:World)(s:ByteArray):Calls prog 66 #[.iface 281 (.string s)] W fun e W'=>e=.returned (.bool false)∧Below W.heap.size W W':=by
 have ta0:=qkH s;have ta1:=qhp s;have ta2:=qkf s;go_enter func66,ntmps66;go_wp2;go_ret;exact⟨rfl,Below.refl _ _⟩
theorem qlQ (W:World)(a:Option Addr)(n c:Nat):Calls prog 66 #[.iface 202 (.slice a n c)] W fun e W'=>e=.returned (.bool true)∧Below W.heap.size W W':=by
 have ta0:=qjK a n c;go_enter func66,ntmps66;go_wp2;go_ret;exact⟨rfl,Below.refl _ _⟩
theorem qlT {α:Type}(T:α→Bool)(l:List α)(k:Nat)(d:α)(hd:l[k]? = some d):(l.take (k+1)).any T=((l.take k).any T||T d):=by
 rw[List.take_add_one,hd];simp
theorem qnH {α:Type}(T:α→Bool)(l:List α)(k:Nat)(d:α)(hd:l[k]? = some d)(h:T d=true):l.any T=true:=List.any_eq_true.2 ⟨d,List.mem_of_getElem? hd,h⟩
def qtb (W:World)(x:Value)(r:Bool):Prop:=∀V,Below W.heap.size W V→Calls prog 66 #[x] V fun e W'=>e=.returned (.bool r)∧Below V.heap.size V W'
theorem qd1 {A W':World}(h1:Below A.heap.size A V)(h2:Below V.heap.size V W'):Below A.heap.size A W':=h1.trans (h2.mono h1.size)
theorem quS (T:DataW Unit→Bool)(W:World)(u:Value)(F:Nat→Prop)(hF:∀k,F k→k<W.heap.size)(ds:List (DataW Unit))(xs:List Value)(hu:qb1 W 81 1 F u ds.length xs)(hit:∀(i:Nat) (x:Value) (d:DataW Unit),xs[i]? = some x→ds[i]? = some d→qtb W x (T d))(hif:∀(i:Nat) (x:Value),xs[i]? = some x→∃t y,x=.iface t y):Calls prog 66 #[.iface 204 u] W fun e W'=>e=.returned (.bool (ds.any T))∧Below W.heap.size W W':=by
 obtain⟨q,cap,rfl,hn⟩:∃q cap,u=.slice q ds.length cap∧ds.length≤maxLen:=by
  rcases hu.2 with ⟨e,e2⟩|⟨g,cap,cur,e,_,_,e4,e5,_⟩
  ·exact⟨none,0,by rw[e,e2],by rw[e2];decide⟩
  exact⟨_,_,e,Nat.le_trans e4 e5⟩
 unfold maxLen at hn;have HU:=qaa hu;have HI:=qaa hit;have HF:=qaa hif;obtain⟨r,HRR⟩:∃r,Hid (ds.any T=r):=⟨_,show _=_ from rfl⟩
 rw[HRR.out];have ta0:=qk5 q ds.length cap;have ta1:=qho q ds.length cap;go_enter func66,ntmps66;go_wp2
 go_loopg [19,6] ds.length (fun g z x wr=>∃(k:Nat),z=.int .i64 k∧Hid (k+g=ds.length)∧Hid ((ds.take k).any T=false)∧Hid (Below W.heap.size W wr))
 case atStart=>exact⟨0,rfl,by show _=_;omega,by show _=_;simp,Below.refl _ _⟩
 case round =>
  obtain⟨k,rfl,hk,HA,HB3⟩:=hrel
  cases gk with
  |zero =>
   have hlt:¬(k:Int)<ds.length:=by have:=hk.out;omega
   have HT:Hid (r=false):=by
    show _=_;rw[←HRR.out];have h:=HA.out;rwa [List.take_of_length_le (by have:=hk.out;omega)] at h
   go_wp2;go_ret;rw[HT.out];exact⟨rfl,HB3.out⟩
  |succ g =>
   have hkn:k<ds.length:=by have:=hk.out;omega
   have hlt:(k:Int)<ds.length:=by omega
   have HR:=HU.out.same (V':=wr) (G:=F) (fun _ h=>h) (fun j hj=>HB3.out.block j (hF j hj));obtain⟨q0,rfl⟩:∃q0,q=some ⟨q0,0,none⟩:=by
    rcases HR.2 with ⟨_,e⟩|⟨g,cap',cur,e,_⟩
    ·omega
    injection e with e1 e2 e3;exact⟨g,e1⟩
   have hxl:xs.length=ds.length:=by have:=HR.1;omega
   obtain⟨x,hx⟩:∃x,xs[k]? = some x:=⟨xs[k],List.getElem?_eq_getElem (by omega)⟩
   obtain⟨d,hd⟩:∃d,ds[k]? = some d:=⟨ds[k],List.getElem?_eq_getElem hkn⟩
   obtain⟨tx,yx,rfl⟩:=HF.out k x hx;have hc:wr.cell? ⟨q0,k,none⟩=some (.iface tx yx):=by
    have:=HR.cell k _ hx;have e:(⟨q0,0,none⟩:Addr).add k=⟨q0,k,none⟩:=by by_cases h:k=0<;>simp[Addr.add,h]
    rwa [e] at this
   have cI:=HI.out k _ d hx hd wr HB3.out;have HN:=qaa (qlT T ds k d hd);have HY:=qaa (qnH T ds k d hd);cases hT:T d
   ·rw[hT] at cI;have HD:=qaa hT
    go_wp2_with (first
     |(go_at_call 66;refine cI.mono ?_;rintro e w4 ⟨rfl,hB4⟩;have HB4:=qaa (qd1 HB3.out hB4)))
    go_roundg g
    case measure=>omega
    case rel=>exact⟨k+1,by go_num,by show _=_;have:=hk.out;omega,by show _=_;rw[HN.out,HA.out,HD.out];rfl,HB4⟩
   rw[hT] at cI;have HD:Hid (r=true):=by show _=_;rw[←HRR.out];exact HY.out hT
   go_wp2_with (first
    |(go_at_call 66;refine cI.mono ?_;rintro e w4 ⟨rfl,hB4⟩;have HB4:=qaa (qd1 HB3.out hB4)))
   go_ret;rw[HD.out];exact⟨rfl,HB4.out⟩
theorem qvv (T:DataW Unit→Bool)(W:World)(u:Value)(F:Nat→Prop)(hF:∀k,F k→k<W.heap.size)(ds:List (Lit×DataW Unit))(xs:List Value)(hu:qb1 W 208 2 F u ds.length xs)(hit:∀(i:Nat) (key:Lit) (d:DataW Unit),ds[i]? = some (key,d)→∃l t y,key=.string l∧xs[2*i]? = some (.string ⟨l.toArray⟩)∧xs[2*i+1]? = some (.iface t y)∧qtb W (.iface t y) (T d)):Calls prog 66 #[.iface 206 u] W fun e W'=>e=.returned (.bool (ds.any fun e=>T e.2))∧Below W.heap.size W W':=by
 obtain⟨q,cap,rfl,hn⟩:∃q cap,u=.slice q ds.length cap∧ds.length≤maxLen:=by
  rcases hu.2 with ⟨e,e2⟩|⟨g,cap,cur,e,_,_,e4,e5,_⟩
  ·exact⟨none,0,by rw[e,e2],by rw[e2];decide⟩
  exact⟨_,_,e,Nat.le_trans e4 e5⟩
 unfold maxLen at hn;have HU:=qaa hu;have HI:=qaa hit;obtain⟨r,HRR⟩:∃r,Hid ((ds.any fun e=>T e.2)=r):=⟨_,show _=_ from rfl⟩
 rw[HRR.out];have ta0:=qmG q ds.length cap;have ta1:=qjk q ds.length cap;have ta2:=qmd q ds.length cap;go_enter func66,ntmps66;go_wp2
 go_loopg [31,9] ds.length (fun g z x wr=>∃(k:Nat),z=.int .i64 k∧Hid (k+g=ds.length)∧Hid ((ds.take k).any (fun e=>T e.2)=false)∧Hid (Below W.heap.size W wr))
 case atStart=>exact⟨0,rfl,by show _=_;omega,by show _=_;simp,Below.refl _ _⟩
 case round =>
  obtain⟨k,rfl,hk,HA,HB3⟩:=hrel
  cases gk with
  |zero =>
   have hlt:¬(k:Int)<ds.length:=by have:=hk.out;omega
   have HT:Hid (r=false):=by
    show _=_;rw[←HRR.out];have h:=HA.out;rwa [List.take_of_length_le (by have:=hk.out;omega)] at h
   go_wp2;go_ret;rw[HT.out];exact⟨rfl,HB3.out⟩
  |succ g =>
   have hkn:k<ds.length:=by have:=hk.out;omega
   have hlt:(k:Int)<ds.length:=by omega
   have HR:=HU.out.same (V':=wr) (G:=F) (fun _ h=>h) (fun j hj=>HB3.out.block j (hF j hj));obtain⟨q0,rfl⟩:∃q0,q=some ⟨q0,0,none⟩:=by
    rcases HR.2 with ⟨_,e⟩|⟨g,cap',cur,e,_⟩
    ·omega
    injection e with e1 e2 e3;exact⟨g,e1⟩
   obtain⟨⟨key,d⟩,hd⟩:∃d,ds[k]? = some d:=⟨ds[k],List.getElem?_eq_getElem hkn⟩
   obtain⟨l,tx,yx,rfl,hx0,hx1,hI⟩:=HI.out k key d hd;have hc0:wr.cell? ⟨q0,k*2,none⟩=some (.string ⟨l.toArray⟩):=by
    have:=HR.cell (2*k) _ hx0;have e:(⟨q0,0,none⟩:Addr).add (2*k)=⟨q0,k*2,none⟩:=by by_cases h:2*k=0<;>simp only[Addr.add,h,Nat.zero_add,Nat.mul_comm k 2,if_true,if_false]
    rwa [e] at this
   have hc1:wr.cell? ⟨q0,k*2+1,none⟩=some (.iface tx yx):=by
    have:=HR.cell (2*k+1) _ hx1;have e:(⟨q0,0,none⟩:Addr).add (2*k+1)=⟨q0,k*2+1,none⟩:=by simp[Addr.add,Nat.mul_comm]
    rwa [e] at this
   have HV:Hid (Below W.heap.size W (wr.alloc (.cells #[.string ⟨l.toArray⟩,.iface tx yx] 208))):=HB3.out.alloc HB3.out.size _;have cI:=hI _ HV.out;have HN:Hid ((ds.take (k+1)).any (fun e=>T e.2)=((ds.take k).any (fun e=>T e.2)||T d)):=qlT (fun e:Lit×DataW Unit=>T e.2) ds k _ hd;have HY:Hid (T d=true→(ds.any fun e=>T e.2)=true):=qnH (fun e:Lit×DataW Unit=>T e.2) ds k _ hd;cases hT:T d
   ·rw[hT] at cI;have HD:=qaa hT
    go_wp2_with (first
     |(go_at_call 66;refine cI.mono ?_;rintro e w4 ⟨rfl,hB4⟩;have HB4:=qaa (qd1 HV.out hB4)))
    go_roundg g
    case measure=>omega
    case rel=>exact⟨k+1,by go_num,by show _=_;have:=hk.out;omega,by show _=_;rw[HN.out,HA.out,HD.out];rfl,HB4⟩
   rw[hT] at cI;have HD:Hid (r=true):=by show _=_;rw[←HRR.out];exact HY.out hT
   go_wp2_with (first
    |(go_at_call 66;refine cI.mono ?_;rintro e w4 ⟨rfl,hB4⟩;have HB4:=qaa (qd1 HV.out hB4)))
   go_ret;rw[HD.out];exact⟨rfl,HB4.out⟩
theorem qai.iface {F:Nat→Prop}:∀{k:Nat} {v:Value} {d:DataW Unit},qai k V F v d→∃t y,v=.iface t y
 |0,_,_,h=>h.elim
 |k+1,v,d,h=>by
  unfold qai at h;split at h
  ·exact⟨_,_,h⟩
  ·exact⟨_,_,h⟩
  ·exact⟨_,_,h.1⟩
  ·exact⟨_,_,h⟩
  ·obtain⟨u,e,_⟩:=h;exact⟨_,_,e⟩
  ·obtain⟨u,xs,e,_⟩:=h;exact⟨_,_,e⟩
  ·obtain⟨u,xs,e,_⟩:=h;exact⟨_,_,e⟩
  exact h.elim
theorem qia:∀(k:Nat) (W:World) (F:Nat→Prop) (v:Value) (d:DataW Unit),(∀j,F j→j<W.heap.size)→qai k W F v d →
  Calls prog 66 #[v] W fun e W'=>e=.returned (.bool (qkn k d))∧Below W.heap.size W W'
 |0,_,_,_,_,_,h=>h.elim
 |k+1,W,F,v,d,hF,h=>by
  have inner:∀x d',qai k W F x d'→qtb W x (qkn k d'):=fun x d' hx V hV =>
   qia k V F x d' (fun j hj=>Nat.lt_of_lt_of_le (hF j hj) hV.size) (hx.same (fun _ h=>h) (fun j hj=>hV.block j (hF j hj)))
  unfold qai at h;split at h
  ·subst h;exact qmZ W
  ·subst h;exact qr3 W _
  ·obtain⟨rfl,_⟩:=h;exact qp0 W _
  ·subst h;exact quz W _
  ·obtain⟨u,rfl,hr⟩:=h;rcases hr.2 with ⟨rfl,_⟩|⟨g,cap,cur,rfl,_⟩
   ·exact qlQ W _ _ _
   exact qlQ W _ _ _
  ·obtain⟨u,xs,rfl,hr,ha⟩:=h;refine quS (qkn k) W u F hF _ xs hr (fun i x d h1 h2=>inner x d (ha i x d h1 h2)) (fun i x hx => ?_);have hd':=List.getElem?_eq_getElem (show i<_ from by
    have h1:=ltL hx;have h2:=hr.1;rw[Nat.mul_one] at h2;rwa [h2] at h1)
   exact(ha i x _ hx hd').iface
  ·obtain⟨u,xs,rfl,hr,ha⟩:=h;refine qvv (qkn k) W u F hF _ xs hr (fun i key d h1 => ?_);obtain⟨l,x,e1,e2,e3,e4⟩:=ha i key d h1;obtain⟨t,y,rfl⟩:=e4.iface;exact⟨l,t,y,e1,e2,e3,inner _ d e4⟩
  exact h.elim
end
section
open Go.RowKit
theorem ifw {c:Prop}[Decidable c]{A B:Prop}(h:c)(a:A):if c then A else B:=by rw[if_pos h];exact a
theorem qeN {o:Oper}{a:Act}{K:Act→World→Prop}{Q:Exit→Act→World→Prop}(s x:Operand)(t:TypeId)(ho:o.op=.call {callee:=.builtin .append,args:=#[s,x],argTypes:=#[t,t]})(base:Nat)(e:TypeId)(i:TypeInfo)(z:Value)(size bytes:Nat)(ht:P.underlying t=some (.slice e))(hi:P.info? e=some i)(hz:i.zero=some z)(hsize:i.size=size)(hby:i.bytes=bytes)(hzs:z.cells.size=size)(hsz:0<size)(v:Value)(n:Nat)(xs:List Value)(hs:a.eval s=v)(hown:w.ownsRow base e size v n xs)(ad:Addr)(m c:Nat)(news:List Value)(hx:a.eval x=.slice (some ad) m c)(hl:news.length=m*size)(hnews:∀j u,news[j]? = some u→w.cell? (ad.add j)=some u)(h1:∀u∈news,u.oneCell'=true)(h63:n+m≤maxLen)(hbytes:(n+m)*bytes≤140737488355328)(hbase:base≤w.heap.size)(h:∀v' w',w'.ownsRow base e size v' (n+m) (xs++news)→w.grownBy w' v.ownBlock→(v'.ownBlock=v.ownBlock∨v'.ownBlock=some w.heap.size)→K (a.put o.dst v') w'):o.wp P a w K Q:=by
 obtain⟨v',w',hr,h2,h3,_,h4⟩:=run_append_own_at (P:=P) w base t o.type e i z size bytes ht hi hz hsize hby hzs hsz v n xs hown ad m c news hl hnews h1 h63 hbytes hbase;unfold Oper.wp execOp;simp only[ho,resolve,invoke,builtin,Sem.run_bind,Sem.run_pure,Result.andThen_ok,List.map_toArray,List.map_cons,List.map_nil,hs,hx,hr];exact h v' w' h2 h3 h4
end
end Go.Proofs.YtllcbnfmihfaaaaGreatDoor
