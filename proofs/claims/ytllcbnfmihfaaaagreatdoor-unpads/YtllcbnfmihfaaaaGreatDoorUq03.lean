import Derived.Laws.ResultCell
import Derived.Deep.OwnRows
import Derived.Laws.CopyRow
import Derived.Laws.MakeOwn
import Derived.BigCall
import Derived.Maps.AppendAt
import Derived.RangeFuncBox
import Derived.Lib.AppendStr
import Derived.Test.YtllcbnfmihfaaaaGreatDoorUq02
set_option maxRecDepth 100000
set_option maxHeartbeats 8000000
namespace Go.Proofs.YtllcbnfmihfaaaaGreatDoor
open Go.Proofs.Tryz
section
open Go.RowKit
theorem qai {B:Nat}{a w:World}(h:Below B a w){g:Nat}(hg:B≤g)(cs:Array Value):Below B a (w.setRow g cs) :=
 h.trans ⟨rfl,rfl,rfl,by simp,fun k hk=>setRow_other w g k cs (by omega)⟩
def fst (n k:Nat)(m:Nat→Nat→Bool)(l h:Nat):Nat→Nat→Bool:=fun i j=>m i j||(decide (j<n∧(i<l∨(i=l∧j<h)))&&(m i k&&m k j))
structure qdJ (w:World)(a:Option Addr)(B:List Int):Prop where
 at_:∀i,i<B.length→∃b off,a=some ⟨b,off,none⟩∧b<w.heap.size∧∀j (h':j<B.length),w.cell? ⟨b,off+j,none⟩=some (.int .i64 B[j])
theorem qdJ.below {w w':World}{a:Option Addr}{B:List Int}(h:qdJ w a B)(hb:Below w.heap.size w w'):qdJ w' a B :=
 ⟨fun i hi=>by
  obtain⟨b,off,ha,hlt,h1⟩:=h.at_ i hi
  exact⟨b,off,ha,Nat.lt_of_lt_of_le hlt hb.size,fun j hj=>(hb.cell (p:=⟨b,_,none⟩) hlt).trans (h1 j hj)⟩⟩
theorem qi4 (b off j:Nat):(⟨b,off,none⟩:Addr).add j=⟨b,off+j,none⟩:=by unfold Addr.add;split<;>simp_all
theorem Tryz.infoU8:(prog.info? 5).map (fun i=>(i.zero,i.size,i.bytes))=some (some (.int .u8 0),1,1):=by kernel_rfl
def qaX (b:UInt8):Value:=.int .u8 b.toNat
theorem qaQ {W:World}{base:Nat}{e:TypeId}{size:Nat}{v:Value}{n:Nat}{xs:List Value}(ho:W.ownsRow base e size v n xs){g:Nat}(h:v.ownBlock=some g):base≤g:=by
 rcases ho.2 with ⟨h0,_⟩|⟨g',cap,cur,rfl,hb',_⟩
 ·subst h0;cases h
 ·cases h;exact hb'
theorem qa4 (w:World)(cs:Array Value)(t:TypeId):∀(j:Nat) (u:Value),cs.toList[j]? = some u→(w.alloc (.cells cs t)).cell? ((⟨w.heap.size,0,none⟩:Addr).add j)=some u:=fun j u hu=>by
 have e:(⟨w.heap.size,0,none⟩:Addr).add j=⟨w.heap.size,j,none⟩:=by by_cases h:j=0<;>simp[Addr.add,h]
 rw[e,cell_of_row _ _ _ _ _ _ (qab _ _)]
 simpa using hu
def Own (W:World)(base:Nat)(v:Value)(bs:List UInt8):Prop:=W.ownsRow base 5 1 v bs.length (bs.map qaX)∧base≤W.heap.size∧∃a n c,v=.slice a n c
theorem qiJ {W':World}{base:Nat}{v':Value}{ys:List UInt8}{b:UInt8}{u:Value}(h:W'.ownsRow base 5 1 v' (ys.length+1) (ys.map qaX++[u]))(hu:qaX b=u):W'.ownsRow base 5 1 v' (ys++[b]).length ((ys++[b]).map qaX):=by
 rw[List.length_append,List.map_append]
 subst hu
 exact h
theorem qcp {W V W':World}{base:Nat}{v:Value}{n:Nat}{xs:List Value}{t:TypeId}{z:Nat}(hb:Below base W V)(ho:V.ownsRow base t z v n xs)(hg:V.grownBy W' v.ownBlock)(hs:base≤V.heap.size):Below base W W' :=
 hb.trans ⟨hg.os,hg.tape,hg.output,hg.size,fun i hi=>hg.block i (by omega) (fun e=>by have:=qaQ ho e.symm;omega)⟩
def qjs (bs:List UInt8)(l:Int)(i:Nat):Bool:=match bs[i]? with
 |none=>false
 |some c=>decide ((i:Int)<l)&&qaG c
theorem qez (W:World)(bs:List UInt8)(fm d l:Int)(i:Nat):Calls prog 206 #[inV bs fm d l,.int .i64 i] W fun e W'=>e=.returned (.bool (qjs bs l i))∧Below W.heap.size W W':=by
 obtain⟨R,HR⟩:∃R,Hid (qjs bs l i=R):=⟨_,show _=_ from rfl⟩
 rw[HR.out]
 have hr:=HR.out
 unfold qjs at hr
 have HX:Hid ((W.alloc (.cells #[.string ⟨bs.toArray⟩,.int .i64 fm,.int .i64 d,.int .i64 l] 143)).heap[W.heap.size]? = some (.cells #[.string ⟨bs.toArray⟩,.int .i64 fm,.int .i64 d,.int .i64 l] 143)):=qab _ _
 have HB:Hid (Below W.heap.size W (W.alloc (.cells #[.string ⟨bs.toArray⟩,.int .i64 fm,.int .i64 d,.int .i64 l] 143))):=bwA
 have cH:Calls prog 113 #[.agg #[.string ⟨bs.toArray⟩,.int .i64 fm,.int .i64 d,.int .i64 l],.int .i64 i] (W.alloc (.cells #[.string ⟨bs.toArray⟩,.int .i64 fm,.int .i64 d,.int .i64 l] 143)) fun e W'=>e=.returned (.bool (qaz bs l i))∧Below (W.alloc (.cells #[.string ⟨bs.toArray⟩,.int .i64 fm,.int .i64 d,.int .i64 l] 143)).heap.size (W.alloc (.cells #[.string ⟨bs.toArray⟩,.int .i64 fm,.int .i64 d,.int .i64 l] 143)) W':=qbp _ bs fm d l i
 have hlt:=ltA HX.out
 unfold inV
 clear HR
 have hno:qaz bs l i=false→R=false:=fun hh=>by
  rw[←hr]
  unfold qaz at hh
  cases hc:bs[i]? with
  |none=>rfl
  |some c =>
   rw[decide_eq_true (ltL hc),Bool.true_and] at hh
   simp only[]
   rw[hh]
   rfl
 cases hh:qaz bs l i
 ·have HE:Hid (R=false):=hno hh
  rw[hh] at cH
  clear hr hh hno
  go_enter func206,ntmps206
  go_wp2_with (first
   |(go_at_call 113;refine cH.mono ?_;clear cH;rintro e w2 ⟨rfl,hB2⟩))
  go_ret
  rw[HE.out]
  exact⟨rfl,HB.out.trans (hB2.mono HB.out.size)⟩
 ·rw[hh] at cH
  unfold qaz at hh
  rw[Bool.and_eq_true] at hh
  have h1:=of_decide_eq_true hh.1
  obtain⟨c,hc⟩:∃c,bs[i]? = some c:=⟨bs[i],List.getElem?_eq_getElem h1⟩
  rw[hc] at hr
  simp only[] at hr
  rw[hh.2,Bool.true_and] at hr
  have hix:=qah bs i c hc
  clear hh hno hc
  unfold qaG at hr
  by_cases g1:(48:Int)≤(c.toNat:Int)
  ·by_cases g2:(c.toNat:Int)≤57
   ·have HE:Hid (R=true):=by show _=_;rw[←hr];exact decide_eq_true ⟨g1,g2⟩
    clear hr
    go_enter func206,ntmps206
    go_wp2_with (first
     |(go_at_call 113;refine cH.mono ?_;clear cH;rintro e w2 ⟨rfl,hB2⟩;have c0:=qaa ((hB2.block _ hlt).trans HX.out) 0))
    go_ret
    rw[HE.out]
    exact⟨rfl,HB.out.trans (hB2.mono HB.out.size)⟩
   ·have HE:Hid (R=false):=by show _=_;rw[←hr];exact decide_eq_false (fun hh=>g2 hh.2)
    clear hr
    go_enter func206,ntmps206
    go_wp2_with (first
     |(go_at_call 113;refine cH.mono ?_;clear cH;rintro e w2 ⟨rfl,hB2⟩;have c0:=qaa ((hB2.block _ hlt).trans HX.out) 0))
    go_ret
    rw[HE.out]
    have g3:decide ((c.toNat:Int)≤57)=false:=decide_eq_false (by omega)
    exact⟨by rw[g3];rfl,HB.out.trans (hB2.mono HB.out.size)⟩
  ·have HE:Hid (R=false):=by show _=_;rw[←hr];exact decide_eq_false (fun hh=>g1 hh.1)
   clear hr
   go_enter func206,ntmps206
   go_wp2_with (first
    |(go_at_call 113;refine cH.mono ?_;clear cH;rintro e w2 ⟨rfl,hB2⟩;have c0:=qaa ((hB2.block _ hlt).trans HX.out) 0))
   go_ret
   rw[HE.out]
   exact⟨rfl,HB.out.trans (hB2.mono HB.out.size)⟩
end
section
open Go.RowKit Go.Lib
theorem qkV (l:List UInt8):strCells ⟨l.toArray⟩=l.map qaX:=by
 unfold strCells
 simp[qaX]
theorem qgd {W W':World}{base:Nat}{v v':Value}{bs l:List UInt8}(h:Own W base v bs)(hown:W'.ownsRow base 5 1 v' (bs.length+(⟨l.toArray⟩:ByteArray).size) (bs.map qaX++strCells ⟨l.toArray⟩))(hg:W.grownBy W' v.ownBlock):Own W' base v' (bs++l)∧Below base W W':=by
 obtain⟨ho,hb,_⟩:=h
 have hB:Below base W W':=qcp (Below.refl base W) ho hg hb
 have hs:(⟨l.toArray⟩:ByteArray).size=l.length:=List.size_toArray ..
 rw[hs,qkV] at hown
 refine⟨⟨by rw[List.length_append,List.map_append];exact hown,Nat.le_trans hb hB.size,?_⟩,hB⟩
 rcases hown.2 with ⟨e,_⟩|⟨g,cap,cur,e,_⟩
 ·exact⟨none,0,0,e⟩
 ·exact⟨_,_,_,e⟩
end
section
open Go.RowKit
def qkj (f:Int):Bool:=f==1||f==2||f==3
theorem qfY (f:Int)(w:World):Calls prog 63 #[.int .i64 f] w fun e w'=>e=.returned (.bool (qkj f))∧w'=w:=by
 go_enter func63,ntmps63
 go_wp2
 all_goals go_ret
 all_goals exact⟨by simp[qkj, *],rfl⟩
theorem qcM (f:Int)(w:World):Calls prog 44 #[.int .i64 f] w fun e w'=>e=.returned (.bool (qkj f))∧w'=w:=by
 go_enter func44,ntmps44
 go_wp2
 all_goals go_ret
 all_goals exact⟨by simp[qkj, *],rfl⟩
end
end Go.Proofs.YtllcbnfmihfaaaaGreatDoor
