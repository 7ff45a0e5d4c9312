import Derived.Test.YtllcbnfmihfaaaaGreatDoorRows
import Derived.WalkKit
import Derived.WalkSpells
import Derived.WalkLawsBesides
import Derived.WalkMore
import Derived.Deep.QuietTactic
import Derived.BigQuiet
import Derived.Deep.LoopGhost
import Derived.Great.Walk
import Derived.Great.BuildSlice
import Derived.Deep.WholeRow
import Derived.Deep.RegionHeld3
import Derived.RangeFuncRecord
set_option maxRecDepth 100000
set_option maxHeartbeats 8000000
namespace Go.Proofs.YtllcbnfmihfaaaaGreatDoor
open Go.Proofs.Tryz
variable {W W' w:World}{b fuel g i:Nat}{cs:Array Value}{o p:Oper}{P:Program}{ops:Array Oper}{Q:Exit→Act→World→Prop}{a:Act}{S:World→Prop}{md:Region.Mode}{listed:Array Bool}{c:UInt8}
section
open Go.RowKit
theorem qaa {p:Prop}(h:p):Hid p:=h
theorem qac (w:World)(o:Obj):(w.alloc o).heap[w.heap.size]? = some o:=by
 show(w.heap.push o)[w.heap.size]? = _;simp
theorem qab {t:TypeId}{fr:Nat×Nat}(hg:w.heap[g]? = some (.cells cs t fr))(j:Nat):w.cell? ⟨g,j,none⟩=cs[j]?:=cell_of_row w g j cs t fr hg
theorem bwA {o:Obj}:Below w.heap.size w (w.alloc o):=(Below.refl _ _).alloc (Nat.le_refl _) _
theorem bwO (o:Obj):Below w.heap.size w (w.alloc o):=(Below.refl _ _).alloc (Nat.le_refl _) _
theorem bwR {n:Nat}:Below n w w:=Below.refl _ _
theorem ltA {α:Type}{a:Array α}{x:α}(h:a[i]? = some x):i<a.size:=(Array.getElem?_eq_some_iff.1 h).1
theorem ltL {α:Type}{a:List α}{x:α}(h:a[i]? = some x):i<a.length:=(List.getElem?_eq_some_iff.1 h).1
theorem sx {j:Nat}{y:Option Obj}(h:j≠g)(e:w.heap[j]? = y):(w.setRow g cs).heap[j]? = y:=(setRow_other _ _ _ _ h).trans e
theorem iQ3 {α β γ:Type}{p:α→β→γ→Prop}:∀a b c,p a b c→p a b c:=fun _ _ _ h=>h
theorem nmd {rest:List Oper}(h:∀V,w=V→wpList P ops Q rest a V):wpList P ops Q rest a w:=h w rfl
theorem rgn {id:Nat}(hS:S {w with drawn:=w.drawn+1})(hm:P.follows .mixedOrders=true)(h:S {w with drawn:=w.drawn+1}→wpAnyH P .any ops Q S ops.size (Array.replicate ops.size false) a {w with drawn:=w.drawn+1}):(Code.region id ops true).wp P Q a w:=wp_region_held hm (h hS)
theorem rd1 (i:Nat)(hi:ops[i]? = some o)(hr:Region.ready md ops listed=[i])(h:(∀K':Act→World→Prop,(∀a w,wpAny P md ops Q fuel (listed.setIfInBounds i true) a w→K' a w)→if Region.wanted o (yielded ops a.tmps)=true then Oper.wp P o a w K' Q else K' (a.put o.dst undef) w)):wpAny P md ops Q (fuel+1) listed a w:=wpAny_ready hr (by simp) (AllReady.cons hi h AllReady.nil)
theorem rd2 (i j:Nat)(hi:ops[i]? = some o)(hj:ops[j]? = some p)(hr:Region.ready md ops listed=[i,j])(h:(∀K':Act→World→Prop,(∀a w,wpAny P md ops Q fuel (listed.setIfInBounds i true) a w→K' a w)→if Region.wanted o (yielded ops a.tmps)=true then Oper.wp P o a w K' Q else K' (a.put o.dst undef) w))(k:(∀K':Act→World→Prop,(∀a w,wpAny P md ops Q fuel (listed.setIfInBounds j true) a w→K' a w)→if Region.wanted p (yielded ops a.tmps)=true then Oper.wp P p a w K' Q else K' (a.put p.dst undef) w)):wpAny P md ops Q (fuel+1) listed a w:=wpAny_ready hr (by simp) (AllReady.cons hi h (AllReady.cons hj k AllReady.nil))
theorem rdH (i:Nat)(hi:ops[i]? = some o)(hr:Region.ready md ops listed=[i])(h:(∀K':Act→World→Prop,Shut (∀a w,S w→(S w→wpAnyH P md ops Q S fuel (listed.setIfInBounds i true) a w)→K' a w)→if Region.wanted o (yielded ops a.tmps)=true then Oper.wp P o a w K' Q else K' (a.put o.dst undef) w)):wpAnyH P md ops Q S (fuel+1) listed a w:=wpAnyH_ready hr (by simp) (AllReadyH.cons hi h AllReadyH.nil)
theorem qsx (i j:Nat)(hi:ops[i]? = some o)(hj:ops[j]? = some p)(hr:Region.ready md ops listed=[i,j])(h:(∀K':Act→World→Prop,Shut (∀a w,S w→(S w→wpAnyH P md ops Q S fuel (listed.setIfInBounds i true) a w)→K' a w)→if Region.wanted o (yielded ops a.tmps)=true then Oper.wp P o a w K' Q else K' (a.put o.dst undef) w))(k:(∀K':Act→World→Prop,Shut (∀a w,S w→(S w→wpAnyH P md ops Q S fuel (listed.setIfInBounds j true) a w)→K' a w)→if Region.wanted p (yielded ops a.tmps)=true then Oper.wp P p a w K' Q else K' (a.put p.dst undef) w)):wpAnyH P md ops Q S (fuel+1) listed a w:=wpAnyH_ready hr (by simp) (AllReadyH.cons hi h (AllReadyH.cons hj k AllReadyH.nil))
theorem nec (v:Int)(h:¬(c.toNat:Int)=v):((c.toNat:Int)==v)=false:=by simpa using h
structure Src where
 ia:Option Addr
 bs:List UInt8
 cap:Nat
 depth:Int
 lim:Int
 pos:Nat
 within:Nat
def Src.arr (s:Src):Array Value:=#[.slice s.ia s.bs.length s.cap,.int .i64 s.depth,.int .i64 s.lim,.int .i64 s.pos,.int .i64 s.within]
structure qad (W:World)(b:Nat)(s:Src):Prop where
 row:W.heap[b]? = some (.cells s.arr 196)
 inp:∀i (h:i<s.bs.length),∃g off,s.ia=some ⟨g,off,none⟩∧g≠b∧W.cell? ⟨g,off+i,none⟩=some (.int .u8 (s.bs[i]'h).toNat)
 len:s.bs.length≤maxLen
 le:s.pos≤s.bs.length
structure But (b:Nat)(W W':World):Prop where
 os:W'.os=W.os
 tape:W'.tape=W.tape
 output:W'.output=W.output
 size:W.heap.size≤W'.heap.size
 block:∀k,k<W.heap.size→k≠b→W'.heap[k]? = W.heap[k]?
theorem But.refl (b:Nat)(W:World):But b W W:=⟨rfl,rfl,rfl,Nat.le_refl _,fun _ _ _=>rfl⟩
theorem But.trans {A B C:World}(h:But b A B)(k:But b B C):But b A C :=
 ⟨k.os.trans h.os,k.tape.trans h.tape,k.output.trans h.output,Nat.le_trans h.size k.size,fun i h1 h2=>(k.block i (by have:=h.size;omega) h2).trans (h.block i h1 h2)⟩
theorem But.of_below (h:Below W.heap.size W W'):But b W W':=⟨h.os,h.tape,h.output,h.size,fun k h1 _=>h.block k h1⟩
theorem qad.below {s:Src}(h:qad W b s)(hb:Below W.heap.size W W'):qad W' b s :=
 ⟨(hb.block _ (ltA h.row)).trans h.row,fun i hi=>by
  obtain⟨g,off,e1,e2,e3⟩:=h.inp i hi;exact⟨g,off,e1,e2,(hb.cell (p:=⟨g,off+i,none⟩) (block_lt_of_cell e3)).trans e3⟩,h.len,h.le⟩
def qeh (e p:Int):Value:=.iface 134 (.agg #[.int .i64 e,.int .i64 p])
def qao (e p:Int)(en:Ending):Prop:=en=.panicked [{v:=qeh e p,recovered:=false}]
theorem qam (W:World)(n:Nat):Below W.heap.size W (W.drewN n):=⟨rfl,rfl,rfl,Nat.le_refl _,fun _ _=>rfl⟩
theorem qfu (W:World)(b:Nat)(s:Src)(h:qad W b s)(h1:s.pos=s.bs.length):Calls prog 293 #[.pointer (some ⟨b,0,none⟩)] W fun e W'=>e=.returned (.bool false)∧∃n,W'=W.drewN n:=by
 have k0:W.cell? ⟨b,0,none⟩=some (.slice s.ia s.bs.length s.cap):=qab h.row 0;have k3:W.cell? ⟨b,3,none⟩=some (.int .i64 s.pos):=qab h.row 3;have h1':(s.pos:Int)=s.bs.length:=by omega
 go_enter func293,ntmps293;go_wp2
 go_region
 go_wp2;go_ret;exact⟨rfl,1,rfl⟩
theorem qel (W:World)(b:Nat)(s:Src)(h:qad W b s)(h1:s.pos<s.bs.length)(h2:(s.pos:Int)=s.lim):Calls prog 293 #[.pointer (some ⟨b,0,none⟩)] W fun e W'=>qao 8 s.pos e∧∃n,W'=W.drewN n:=by
 have k0:W.cell? ⟨b,0,none⟩=some (.slice s.ia s.bs.length s.cap):=qab h.row 0;have k2:W.cell? ⟨b,2,none⟩=some (.int .i64 s.lim):=qab h.row 2;have k3:W.cell? ⟨b,3,none⟩=some (.int .i64 s.pos):=qab h.row 3;have h1':¬(s.pos:Int)=s.bs.length:=by omega
 go_enter func293,ntmps293;go_wp2
 go_region
 go_wp2
 go_region
 go_wp2;exact⟨rfl,by rw[h2];rfl,2,rfl⟩
theorem qeo (W:World)(b:Nat)(s:Src)(h:qad W b s)(h1:s.pos<s.bs.length)(h2:¬(s.pos:Int)=s.lim):Calls prog 293 #[.pointer (some ⟨b,0,none⟩)] W fun e W'=>e=.returned (.bool true)∧∃n,W'=W.drewN n:=by
 have k0:W.cell? ⟨b,0,none⟩=some (.slice s.ia s.bs.length s.cap):=qab h.row 0;have k2:W.cell? ⟨b,2,none⟩=some (.int .i64 s.lim):=qab h.row 2;have k3:W.cell? ⟨b,3,none⟩=some (.int .i64 s.pos):=qab h.row 3;have h1':¬(s.pos:Int)=s.bs.length:=by omega
 go_enter func293,ntmps293;go_wp2
 go_region
 go_wp2
 go_region
 go_wp2;go_ret;exact⟨rfl,2,rfl⟩
def quY (s:Src):Prop:=s.pos=s.bs.length
def quZ (s:Src):Prop:=s.pos<s.bs.length∧(s.pos:Int)=s.lim
def qfp (s:Src)(c:UInt8):Prop:=s.bs[s.pos]? = some c∧¬(s.pos:Int)=s.lim
theorem qaM {s:Src}(h:qad W b s):quY s∨quZ s∨∃c,qfp s c:=by
 have:=h.le;by_cases h1:s.pos=s.bs.length
 ·exact .inl h1
 by_cases h2:(s.pos:Int)=s.lim
 ·exact .inr (.inl ⟨by omega,h2⟩)
 exact .inr (.inr ⟨s.bs[s.pos]'(by omega),by rw[List.getElem?_eq_getElem (by omega)],h2⟩)
theorem qfp.lt {s:Src}(h:qfp s c):s.pos<s.bs.length:=ltL h.1
theorem qfp.cell {s:Src}(h:qad W b s)(hc:qfp s c):∃g off,s.ia=some ⟨g,off,none⟩∧g≠b∧W.cell? ⟨g,off+s.pos,none⟩=some (.int .u8 c.toNat):=by
 obtain⟨g,off,e1,e2,e3⟩:=h.inp s.pos hc.lt;have:=(List.getElem?_eq_some_iff.1 hc.1).2;rw[this] at e3;exact⟨g,off,e1,e2,e3⟩
def Src.next (s:Src):Src:={s with pos:=s.pos+1}
theorem qrb {s:Src}(h:qad W b s)(hl:s.pos<s.bs.length)(n:Nat):qad ((W.drewN n).setCell ⟨b,3,none⟩ (.int .i64 ((s.pos:Int)+1))) b s.next∧But b W ((W.drewN n).setCell ⟨b,3,none⟩ (.int .i64 ((s.pos:Int)+1))):=by
 have hr:(W.drewN n).heap[b]? = some (.cells s.arr 196):=h.row;have hlt:=ltA h.row;refine⟨⟨?_,fun i hi => ?_,h.len,?_⟩,⟨rfl,rfl,rfl,by simp[World.setCell,World.drewN],fun k hk hne => ?_⟩⟩
 ·rw[heap_setCell_same _ _ _ _ _ _ hr];rfl
 ·obtain⟨g,off,e1,e2,e3⟩:=h.inp i hi;refine⟨g,off,e1,e2,?_⟩;have:((W.drewN n).setCell ⟨b,3,none⟩ (.int .i64 ((s.pos:Int)+1))).heap[g]? = W.heap[g]?:=heap_setCell_other (W.drewN n) _ _ _ (by simpa using e2);exact(World.cell?_of_block (w:=W) this).trans e3
 ·show s.pos+1≤s.bs.length;omega
 exact heap_setCell_other (W.drewN n) _ _ _ (by simpa using hne)
theorem qbm (W:World)(b:Nat)(s:Src)(h:qad W b s)(h1:quY s):Calls prog 294 #[.pointer (some ⟨b,0,none⟩)] W fun e W'=>qao 9 s.pos e∧Below W.heap.size W W':=by
 have cM:=qfu W b s h h1;have k3:W.cell? ⟨b,3,none⟩=some (.int .i64 s.pos):=qab h.row 3;go_enter func294,ntmps294
 go_wp2_with (first|(go_at_call 293;refine cM.mono ?_;rintro e w2 ⟨rfl,n,rfl⟩))
 exact⟨rfl,rfl,qam _ _⟩
theorem qaP (W:World)(b:Nat)(s:Src)(h:qad W b s)(h1:quZ s):Calls prog 294 #[.pointer (some ⟨b,0,none⟩)] W fun e W'=>qao 8 s.pos e∧Below W.heap.size W W':=by
 have cM:=qel W b s h h1.1 h1.2;go_enter func294,ntmps294
 go_wp2_with (first|(go_at_call 293;refine cM.mono ?_;rintro e w2 ⟨rfl,n,rfl⟩))
 exact⟨rfl,rfl,qam _ _⟩
theorem qau (W:World)(b:Nat)(s:Src)(c:UInt8)(h:qad W b s)(h1:qfp s c):Calls prog 294 #[.pointer (some ⟨b,0,none⟩)] W fun e W'=>e=.returned (.int .u8 c.toNat)∧qad W' b s.next∧But b W W':=by
 have cM:=qeo W b s h h1.lt h1.2;have HN:=qaa (qrb h h1.lt);have hl:=h1.lt;have hm:=h.len;unfold maxLen at hm;obtain⟨g,off,e1,e2,e3⟩:=h1.cell h;have k3:W.cell? ⟨b,3,none⟩=some (.int .i64 s.pos):=qab h.row 3;have f3:=frozen_of_row W b 3 _ _ h.row;go_enter func294,ntmps294
 go_wp2_with (first|(go_at_call 293;refine cM.mono ?_;rintro e w2 ⟨rfl,n,rfl⟩))
 obtain⟨hS,hB⟩:=HN.out n;have HS:=qaa hS;have HB:=qaa hB;have c0:((W.drewN n).setCell ⟨b,3,none⟩ (.int .i64 ((s.pos:Int)+1))).cell? ⟨b,0,none⟩=some (.slice (some ⟨g,off,none⟩) s.bs.length s.cap):=by rw[←e1];exact qab hS.row 0
 have c3:((W.drewN n).setCell ⟨b,3,none⟩ (.int .i64 ((s.pos:Int)+1))).cell? ⟨b,3,none⟩=some (.int .i64 ((s.pos:Int)+1)):=qab hS.row 3;have cb:((W.drewN n).setCell ⟨b,3,none⟩ (.int .i64 ((s.pos:Int)+1))).cell? ⟨g,off+s.pos,none⟩=some (.int .u8 c.toNat):=by
  have:((W.drewN n).setCell ⟨b,3,none⟩ (.int .i64 ((s.pos:Int)+1))).heap[g]? = W.heap[g]?:=heap_setCell_other (W.drewN n) _ _ _ (by simpa using e2);exact(World.cell?_of_block (w:=W) this).trans e3
 generalize (W.drewN n).setCell ⟨b,3,none⟩ (.int .i64 ((s.pos:Int)+1))=V at *
 go_region
 go_wp2;go_ret;exact⟨rfl,HS.out.below (Below.refl _ _).drew,HB.out.trans (But.of_below (Below.refl _ _).drew)⟩
end
end Go.Proofs.YtllcbnfmihfaaaaGreatDoor
