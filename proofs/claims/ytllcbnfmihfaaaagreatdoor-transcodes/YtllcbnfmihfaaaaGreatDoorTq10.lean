import Derived.Lib.AppendStr
import Derived.Test.YtllcbnfmihfaaaaGreatDoorTq09
import Derived.Test.YtllcbnfmihfaaaaGreatDoorTq08
set_option maxRecDepth 100000
set_option maxHeartbeats 8000000
namespace Go.Proofs.YtllcbnfmihfaaaaGreatDoor
open Go.Proofs.Tryz
variable {fn:Func}{p q u:Tmp}{V V' W w:World}{A:Array Value}{k n:Int}{s:ByteArray}{g g2:Nat}{o:Oper}{ks vs:Value}{F:Int×Int}
section
open Go.RowKit
theorem q0U {P:Program}{ty ty2:TypeId}(h:fn.results=#[.cell p ty,.tmp u,.cell q ty2])(tmps:Array Value)(w:World)(g g2:Nat)(t t2:TypeId)(cs cs2:Array Value)(fr fr2:Nat×Nat)(d d2:TypeDesc)(hp:tmps.getD p undef=.pointer (some ⟨g,0,none⟩))(hg:w.heap[g]? = some (.cells cs t fr))(hu:P.underlying ty=some d)(hd:(match d with|.struct _|.array _ _=>true|_=>false)=true)(hi:(P.info? ty).map (·.size)=some cs.size)(hp2:tmps.getD q undef=.pointer (some ⟨g2,0,none⟩))(hg2:w.heap[g2]? = some (.cells cs2 t2 fr2))(hu2:P.underlying ty2=some d2)(hd2:(match d2 with|.struct _|.array _ _=>true|_=>false)=true)(hi2:(P.info? ty2).map (·.size)=some cs2.size)(v:Value)(hv:tmps.getD u undef=v):(results fn tmps).run P w=.ok (.tuple #[.agg cs,v,.agg cs2]) w:=by
 have e:(results fn tmps).run P w=((asAddr (tmps.getD p undef)).run P w).andThen fun a w₁=>((loadVar ty a).run P w₁).andThen fun v w₂=>((asAddr (tmps.getD q undef)).run P w₂).andThen fun a2 w₃=>((loadVar ty2 a2).run P w₃).andThen fun v2 w₄=>.ok (.tuple #[v,tmps.getD u undef,v2]) w₄:=by
  simp only[results,h];simp[Sem.run_bind,Result.andThen]
 subst hv;rw[e,hp,hp2];simp only[asAddr,Sem.run_pure,Result.andThen_ok,run_loadVar_row w g t ty cs fr d hg hu hd hi,run_loadVar_row w g2 t2 ty2 cs2 fr2 d2 hg2 hu2 hd2 hi2]
def qxE:Value:=.slice none 0 0
def thA (kind n:Int)(s:ByteArray)(ks vs:Value):Array Value:=#[.int .i64 kind,.int .i64 n,.string s,ks,vs]
def th0:Array Value:=thA 0 0 ⟨#[]⟩ qxE qxE
theorem qyL:(prog.info? 93).map (·.size)=some 5:=by kernel_rfl
theorem qyu (k n:Int)(s:ByteArray)(ks vs:Value):(prog.info? 93).map (·.size)=some (thA k n s ks vs).size:=qyL
structure RTh (W:World)(A:Array Value)(V:World):Prop where
 box:V.heap[W.heap.size]? = some (.cells A 143)
 th:V.heap[W.heap.size+1]? = some (.cells th0 93)
 flt:V.heap[W.heap.size+2]? = some (.cells (qqp (0,0)) 95)
 below:Below W.heap.size W V
theorem RTh.next (h:RTh W A V)(hb:Below V.heap.size V V'):RTh W A V' :=
 ⟨(hb.block _ (ltA h.box)).trans h.box,(hb.block _ (ltA h.th)).trans h.th,(hb.block _ (ltA h.flt)).trans h.flt,h.below.trans (hb.mono h.below.size)⟩
theorem RTh.drew (h:RTh W A V):RTh W A V.drew:=⟨h.box,h.th,h.flt,h.below.drew⟩
theorem q4v (W:World)(A:Array Value):RTh W A (((W.alloc (.cells A 143)).alloc (.cells th0 93)).alloc (.cells (qqp (0,0)) 95)) :=
 ⟨((Below.heap_alloc _ _ _ (by simp;omega)).trans (Below.heap_alloc _ _ _ (by simp))).trans (qac _ _),(Below.heap_alloc _ _ _ (by simp)).trans (by have:=qac (W.alloc (.cells A 143)) (.cells th0 93);simpa using this),by have:=qac ((W.alloc (.cells A 143)).alloc (.cells th0 93)) (.cells (qqp (0,0)) 95);simpa using this,((bwA).alloc (by simp) _).alloc (by simp;omega) _⟩
theorem qxQ (h:RTh W A V)(hb:Below V.heap.size V V')(y:Array Value)(x:Int×Int):((V'.setRow (W.heap.size+1) y).setRow (W.heap.size+2) (qqp x)).heap[W.heap.size+1]? = some (.cells y 93)∧((V'.setRow (W.heap.size+1) y).setRow (W.heap.size+2) (qqp x)).heap[W.heap.size+2]? = some (.cells (qqp x) 95)∧Below W.heap.size W ((V'.setRow (W.heap.size+1) y).setRow (W.heap.size+2) (qqp x)):=by
 have h2:=h.next hb
 refine⟨?_,?_,qah (qah h2.below (by omega) _) (by omega) _⟩
 ·rw[setRow_other _ _ _ _ (by omega)];exact setRow_heap _ _ _ _ _ _ h2.th
 exact setRow_heap _ _ _ _ _ _ (sx (by omega) h2.flt)
theorem qyc (h:RTh W A V)(hb:Below V.heap.size V V')(y:Array Value):(V'.setRow (W.heap.size+1) y).heap[W.heap.size+2]? = some (.cells (qqp (0,0)) 95):=sx (by omega) (h.next hb).flt
theorem q1D (k n:Int)(s:ByteArray)(a b:Option Addr)(i j p q:Nat):(thA k n s (.slice a i j) (.slice b p q)).all (·.oneCell')=true:=by simp[thA,Value.oneCell']
def q7e (r:Except (Int×Int) (Int×Nat))(e:Ending):Prop:=match r with
 |.ok (z,q)=>e=.returned (.tuple #[.agg (thA 3 z ⟨#[]⟩ qxE qxE),.int .i64 q,.agg (qqp (0,0))])
 |.error f=>e=.returned (.tuple #[.agg th0,.int .i64 0,.agg (qqp f)])
theorem q6F (num d:Nat)(hd:d≤9):(-(num:Int)<(-9223372036854775808+(d:Int)).tdiv 10)↔(9223372036854775808-d) / 10<num:=by
 have e:(-9223372036854775808+(d:Int)) = -((9223372036854775808-d:Nat):Int):=by omega
 rw[e,Int.neg_tdiv,show((10:Int))=((10:Nat):Int) from rfl,←Int.ofNat_tdiv];omega
def ThG (T:Array Value):Prop:=T.size=5∧T.all (·.oneCell')=true
theorem thg {a b:Option Addr}{i j p q:Nat}:ThG (thA k n s (.slice a i j) (.slice b p q)):=⟨rfl,q1D _ _ _ _ _ _ _ _ _⟩
theorem stT {ops:Array Oper}{rest:List Oper}{a:Act}{Q:Exit→Act→World→Prop}(x y:Nat)(hgd:o.guard=none)(ho:o.op=.store 93 (.tmp x) (.tmp y))(g:Nat)(T:Array Value)(hx:a.eval (.tmp x)=.pointer (some ⟨g,0,none⟩))(hy:a.eval (.tmp y)=.agg T)(hg:w.heap[g]? = some (.cells th0 93))(hT:ThG T)(h:wpList prog ops Q rest (a.put o.dst undef) (w.setRow g T)):wpList prog ops Q (o::rest) a w :=
 wpList_store_row hgd _ _ _ ho g _ hx hy _ _ hg (by rw[hT.1];exact qyL) (by rw[hT.1];rfl) hT.2 h
theorem q7i {tmps:Array Value}(h:fn.results=#[.cell p 93,.tmp u,.cell q 95])(hg:w.heap[g]? = some (.cells (thA k n s ks vs) 93))(hg2:w.heap[g2]? = some (.cells (qqp F) 95))(v:Value)(hp:tmps.getD p undef=.pointer (some ⟨g,0,none⟩))(hp2:tmps.getD q undef=.pointer (some ⟨g2,0,none⟩))(hv:tmps.getD u undef=v):(results fn tmps).run prog w=.ok (.tuple #[.agg (thA k n s ks vs),v,.agg (qqp F)]) w :=
 q0U h _ _ g g2 _ _ _ _ _ _ _ _ hp hg underlying93 rfl (qyu _ _ _ _ _) hp2 hg2 underlying95 rfl (qyj _) v hv
theorem eoT {A:Act}{R:Ending→World→Prop}{B:Prop}(h:fn.results=#[.cell p 93,.tmp u,.cell q 95])(hf:w.heap[g]? = some (.cells (thA k n s ks vs) 93)∧w.heap[g2]? = some (.cells (qqp F) 95)∧B)(v:Value)(hp:A.tmps.getD p undef=.pointer (some ⟨g,0,none⟩))(hp2:A.tmps.getD q undef=.pointer (some ⟨g2,0,none⟩))(hv:A.tmps.getD u undef=v)(hd:A.defers=[])(kk:R (.returned (.tuple #[.agg (thA k n s ks vs),v,.agg (qqp F)])) w):bodyPost prog fn R .ret A w:=bodyPost_ret (q7i h hf.1 hf.2.1 v hp hp2 hv) hd kk
theorem qzU (W:World)(bs:List UInt8)(fm d l:Int):Hid (RTh W (inA bs fm d l) (((W.alloc (.cells #[.string ⟨bs.toArray⟩,.int .i64 fm,.int .i64 d,.int .i64 l] 143)).alloc (.cells th0 93)).alloc (.cells (qqp (0,0)) 95))):=q4v W _
theorem yT {ev:Operand→Value}(x:Nat)(hg:W.heap[g]? = some (.cells (thA k n s ks vs) 93))(ho:o.op=.load 93 (.tmp x))(hx:ev (.tmp x)=.pointer (some ⟨g,0,none⟩)):(execOp ev o).run prog W=.ok (.value (.agg (thA k n s ks vs))) W :=
 q6V _ _ ho g hx _ _ _ _ hg underlying93 rfl (qyu _ _ _ _ _)
def q7c (r:Except (Int×Int) (Nat×Nat)):Value:=match r with
 |.ok (x,_)=>.tuple #[.int .i64 x,.agg (qqp (0,0))]
 |.error f=>.tuple #[.int .i64 0,.agg (qqp f)]
theorem q3R (W:World)(bs:List UInt8)(fm d l lim:Int)(i:Nat)(hl:Lm bs l lim)(hi:InR bs lim i)(hb:bs.length≤200000000):Calls prog 245 #[.agg (inA bs fm d l),.int .i64 i] W fun e W'=>e=.returned (q7c (qgA bs lim 4 i 0))∧Below W.heap.size W W':=by
 obtain⟨R,HR⟩:∃R,Hid (qgA bs lim 4 i 0=R):=⟨_,show _=_ from rfl⟩
 rw[HR.out];have hil:=hi.1;have HL:=qaa hl;have HI:=qaa hi;have cH:=qzv bs fm d l;have cB:=qzy bs fm d l;clear hl hi;unfold inA;go_enter func245,ntmps245;go_wp2
 go_loopg [6,7] 4 (fun g zn zk wr=>∃k num:Nat,zk=.int .i64 k∧zn=.int .i64 num∧Hid (k+g=i+4∧i≤k)∧Hid (num≤65535∧(1≤g→num*16+15≤65535)∧(2≤g→num*256+255≤65535)∧(3≤g→num*4096+4095≤65535)∧(4≤g→num=0))∧Hid (RIn W (inA bs fm d l) (W.heap.size+1) wr)∧Hid (qgA bs lim g k num=R)∧Hid (InR bs lim k))
 case atStart=>exact⟨i,0,rfl,rfl,⟨rfl,Nat.le_refl _⟩,⟨by omega,by omega,by omega,by omega,fun _=>rfl⟩,qzj _ _,HR,HI⟩
 case round =>
  clear HR HI;obtain⟨k,num,rfl,rfl,hg,hm,HX,HR,HI⟩:=hrel;have hkl:=HI.out.1;have hmm:=hm.out.1;obtain⟨c0,c1,c2,c3⟩:=qyf HX.out.box;have cH1:=fun V=>cH V k
  cases gk with
  |zero =>
   have hlt:¬(k:Int)<(i:Int)+4:=by have:=hg.out;omega
   have HE:Hid (R=.ok (num,k)):=by show _=_;rw[←HR.out,qgA]
   clear HR cH cH1 cB hg
   go_wp2_with (first
    |(refine stF 5 72 rfl rfl (W.heap.size+1) (0,0) rfl rfl ?_ ?_;exact HX.out.flt))
   have hf:=qxK HX.out bwR (0,0);refine eoF results245 hf _ rfl rfl rfl ⟨?_,hf.2⟩;rw[HE.out];rfl
  |succ g =>
   have hlt:(k:Int)<(i:Int)+4:=by have:=hg.out;omega
   have hr:=HR.out;rw[qgA] at hr
   cases hc:bs[k]? with
   |none =>
    rw[hc] at hr;simp only[] at hr;have cB1:=fun V=>cB V k 9;rw[qxS hc] at cH1;rw[qxY hkl hc] at cB1;have HE:=qaa hr.symm;clear hr hc cB cH HR hg
    go_wp2_with (first
     |(go_at_call 113;refine ck4 (cH1 _) HX.out.next (fun _ h=>h.box) ?_;clear cH1 c0 c1 c2 c3;intro w2 HX2 c0 c1 c2 c3)
     |(go_at_call 71;refine ck4 (cB1 _) HX2.out.next (fun _ h=>h.box) ?_;clear cB1 c0 c1 c2 c3;intro w3 HX3 c0 c1 c2 c3)
     |(refine stF 5 22 rfl rfl (W.heap.size+1) (9,(k:Int)) rfl rfl ?_ ?_;exact HX3.out.flt))
    have hf:=qxK HX3.out bwR (9,(k:Int));refine eoF results245 hf _ rfl rfl rfl ⟨?_,hf.2⟩;rw[HE.out];rfl
   |some c =>
    rw[hc] at hr;simp only[] at hr;have hix:=fun V=>qxH bs k c hc V;have hkb:=ltL hc;have cB1:=fun V=>cB V k 9;by_cases hp:(k:Int)=lim
    ·rw[if_pos hp] at hr;rw[qyg HL.out hc hp] at cH1;rw[qxW HL.out hc hp] at cB1;have HE:=qaa hr.symm;clear hr hc cB cH HR hg hp hix
     go_wp2_with (first
      |(go_at_call 113;refine ck4 (cH1 _) HX.out.next (fun _ h=>h.box) ?_;clear cH1 c0 c1 c2 c3;intro w2 HX2 c0 c1 c2 c3)
      |(go_at_call 71;refine ck4 (cB1 _) HX2.out.next (fun _ h=>h.box) ?_;clear cB1 c0 c1 c2 c3;intro w3 HX3 c0 c1 c2 c3)
      |(refine stF 5 22 rfl rfl (W.heap.size+1) (8,(k:Int)) rfl rfl ?_ ?_;exact HX3.out.flt))
     have hf:=qxK HX3.out bwR (8,(k:Int));refine eoF results245 hf _ rfl rfl rfl ⟨?_,hf.2⟩;rw[HE.out];rfl
    rw[if_neg hp] at hr;rw[qxO HL.out HI.out hc hp] at cH1;rw[qxT HL.out HI.out hc hp] at cB1;have HNX:=qaa (qxJ HI.out hc hp)
    cases hv:qqh c with
    |none =>
     rw[hv] at hr;have HE:Hid (R=.error (9,(k:Int))):=hr.symm;have h4:(c.toNat:Int)<48∨(57<(c.toNat:Int)∧(c.toNat:Int)<65)∨(70<(c.toNat:Int)∧(c.toNat:Int)<97)∨102<(c.toNat:Int):=by
      unfold qqh qcQ at hv;split at hv
      ·cases hv
      rename_i h1
      split at hv
      ·cases hv
      rename_i h2
      split at hv
      ·cases hv
      rename_i h3
      have h1':¬(48≤(c.toNat:Int)∧(c.toNat:Int)≤57):=fun h=>h1 (decide_eq_true h);omega
     clear hr hc hv cB cH HR hg hp HNX;rcases h4 with h4|⟨h4,h5⟩|⟨h4,h5⟩|h4
     ·go_wp2_with (first
       |(go_at_call 113;refine ck4 (cH1 _) HX.out.next (fun _ h=>h.box) ?_;clear cH1 c0 c1 c2 c3;intro w2 HX2 c0 c1 c2 c3)
       |(go_at_call 71;refine ck4 (cB1 _) HX2.out.next (fun _ h=>h.box) ?_;clear cB1 c0 c1 c2 c3;intro w3 HX3 c0 c1 c2 c3)
       |(refine stF 5 29 rfl rfl (W.heap.size+1) (9,(k:Int)) rfl rfl ?_ ?_;exact HX3.out.flt))
      have hf:=qxK HX3.out bwR (9,(k:Int));refine eoF results245 hf _ rfl rfl rfl ⟨?_,hf.2⟩;rw[HE.out];rfl
     ·go_wp2_with (first
       |(go_at_call 113;refine ck4 (cH1 _) HX.out.next (fun _ h=>h.box) ?_;clear cH1 c0 c1 c2 c3;intro w2 HX2 c0 c1 c2 c3)
       |(go_at_call 71;refine ck4 (cB1 _) HX2.out.next (fun _ h=>h.box) ?_;clear cB1 c0 c1 c2 c3;intro w3 HX3 c0 c1 c2 c3)
       |(refine stF 5 29 rfl rfl (W.heap.size+1) (9,(k:Int)) rfl rfl ?_ ?_;exact HX3.out.flt))
      have hf:=qxK HX3.out bwR (9,(k:Int));refine eoF results245 hf _ rfl rfl rfl ⟨?_,hf.2⟩;rw[HE.out];rfl
     ·go_wp2_with (first
       |(go_at_call 113;refine ck4 (cH1 _) HX.out.next (fun _ h=>h.box) ?_;clear cH1 c0 c1 c2 c3;intro w2 HX2 c0 c1 c2 c3)
       |(go_at_call 71;refine ck4 (cB1 _) HX2.out.next (fun _ h=>h.box) ?_;clear cB1 c0 c1 c2 c3;intro w3 HX3 c0 c1 c2 c3)
       |(refine stF 5 29 rfl rfl (W.heap.size+1) (9,(k:Int)) rfl rfl ?_ ?_;exact HX3.out.flt))
      have hf:=qxK HX3.out bwR (9,(k:Int));refine eoF results245 hf _ rfl rfl rfl ⟨?_,hf.2⟩;rw[HE.out];rfl
     go_wp2_with (first
      |(go_at_call 113;refine ck4 (cH1 _) HX.out.next (fun _ h=>h.box) ?_;clear cH1 c0 c1 c2 c3;intro w2 HX2 c0 c1 c2 c3)
      |(go_at_call 71;refine ck4 (cB1 _) HX2.out.next (fun _ h=>h.box) ?_;clear cB1 c0 c1 c2 c3;intro w3 HX3 c0 c1 c2 c3)
      |(refine stF 5 29 rfl rfl (W.heap.size+1) (9,(k:Int)) rfl rfl ?_ ?_;exact HX3.out.flt))
     have hf:=qxK HX3.out bwR (9,(k:Int));refine eoF results245 hf _ rfl rfl rfl ⟨?_,hf.2⟩;rw[HE.out];rfl
    |some dn =>
     rw[hv] at hr;have HN:Hid (qgA bs lim g (k+1) (num*16+dn)=R):=hr;have hd16:=qnW hv;have HMX:Hid (num*16+dn≤65535∧(1≤g→(num*16+dn)*16+15≤65535)∧(2≤g→(num*16+dn)*256+255≤65535)∧(3≤g→(num*16+dn)*4096+4095≤65535)∧(4≤g→num*16+dn=0)):=by
      have h:=hm.out;have hg4:g+1≤4:=by
       have:=hg.out;omega
      refine⟨by omega,by omega,by omega,by omega,by omega⟩
     have h3:(48≤(c.toNat:Int)∧(c.toNat:Int)≤57∧(dn:Int)=(c.toNat:Int)-48)∨(97≤(c.toNat:Int)∧(c.toNat:Int)≤102∧(dn:Int)=(c.toNat:Int)-87)∨(65≤(c.toNat:Int)∧(c.toNat:Int)≤70∧(dn:Int)=(c.toNat:Int)-55):=by
      unfold qqh qcQ at hv;split at hv
      ·rename_i h1
       have:=of_decide_eq_true h1;injection hv with hv;omega
      split at hv
      ·injection hv with hv;omega
      split at hv
      ·injection hv with hv;omega
      cases hv
     clear hr hc hv cB cB1 cH HR hp hm;rcases h3 with ⟨h4,h5,h6⟩|⟨h4,h5,h6⟩|⟨h4,h5,h6⟩
     ·have H6:Hid _:=h6;clear h6 hd16
      go_wp2_with (first
       |(go_at_call 113;refine ck4 (cH1 _) HX.out.next (fun _ h=>h.box) ?_;clear cH1 c0 c1 c2 c3;intro w2 HX2 c0 c1 c2 c3))
      go_roundg g
      case measure=>omega
      case rel=>exact⟨k+1,num*16+dn,by go_num,congrArg (Value.int .i64) (by have:=H6.out;omega),⟨by have:=hg.out;omega,by have:=hg.out;omega⟩,HMX,HX2,HN,HNX⟩
     ·have H6:Hid _:=h6;clear h6 hd16
      go_wp2_with (first
       |(go_at_call 113;refine ck4 (cH1 _) HX.out.next (fun _ h=>h.box) ?_;clear cH1 c0 c1 c2 c3;intro w2 HX2 c0 c1 c2 c3))
      go_roundg g
      case measure=>omega
      case rel=>exact⟨k+1,num*16+dn,by go_num,congrArg (Value.int .i64) (by have:=H6.out;omega),⟨by have:=hg.out;omega,by have:=hg.out;omega⟩,HMX,HX2,HN,HNX⟩
     have H6:Hid _:=h6;clear h6 hd16
     go_wp2_with (first
      |(go_at_call 113;refine ck4 (cH1 _) HX.out.next (fun _ h=>h.box) ?_;clear cH1 c0 c1 c2 c3;intro w2 HX2 c0 c1 c2 c3))
     go_roundg g
     case measure=>omega
     case rel=>exact⟨k+1,num*16+dn,by go_num,congrArg (Value.int .i64) (by have:=H6.out;omega),⟨by have:=hg.out;omega,by have:=hg.out;omega⟩,HMX,HX2,HN,HNX⟩
end
section
open Go.RowKit Go.Lib
theorem q6K (W:World)(bs:List UInt8)(cs:List Value)(n:Nat)(hn:n=bs.length)(hm:n≤9)(hc:bs.map qav=cs):Own (W.alloc (.cells cs.toArray 5)) W.heap.size (.slice (some ⟨W.heap.size,0,none⟩) n n) bs∧Below W.heap.size W (W.alloc (.cells cs.toArray 5)):=by
 subst hc;subst hn;refine⟨⟨⟨by simp,.inr ⟨W.heap.size,bs.length,(bs.map qav).toArray,rfl,Nat.le_refl _,qac _ _,Nat.le_refl _,by unfold maxLen;omega,by simp,by simp[List.take_of_length_le]⟩⟩,by simp,_,_,_,rfl⟩,bwA⟩
theorem qzn (W:World)(r:Int)(cs:List Value)(n:Nat)(hn:n=cs.length)(hc:runeCells r=cs):Own (W.alloc (.cells cs.toArray 5)) W.heap.size (.slice (some ⟨W.heap.size,0,none⟩) n n) (qcD r)∧Below W.heap.size W (W.alloc (.cells cs.toArray 5)):=by
 have h4:=(encodeRuneZ_length r).2;have h5:cs.length=(encodeRuneZ r).length:=by rw[←hc];unfold runeCells;rw[List.length_map]
 exact q6K W (qcD r) cs n (by unfold qcD;rw[List.length_map];omega) (by omega) (by rw[←qhx,hc])
theorem q4b (W:World)(n:Int)(h0:0≤n)(h1:n≤1114111)(hs:¬(55296≤n∧n≤57343)):Calls prog 246 #[.int .i64 n] W fun e W'=>∃v,e=.returned v∧Own W' W.heap.size v (qcD n)∧Below W.heap.size W W':=by
 by_cases a:n<128
 ·have hc:runeCells n=[.int .u8 n]:=by unfold runeCells;rw[encodeRuneZ_one h0 (by omega)];rfl
  have HO:=qaa (qzn W n _ 1 rfl hc);go_enter func246,ntmps246;go_wp2;go_ret;exact⟨_,rfl,HO.out.1,HO.out.2⟩
 by_cases b:n<2048
 ·have hc:runeCells n=[.int .u8 (192+n / 64),.int .u8 (128+n%64)]:=by unfold runeCells;rw[encodeRuneZ_two (by omega) (by omega)];rfl
  have HO:=qaa (qzn W n _ 2 rfl hc);go_enter func246,ntmps246;go_wp2;go_ret;exact⟨_,rfl,HO.out.1,HO.out.2⟩
 by_cases c:n<65536
 ·have hc:runeCells n=[.int .u8 (224+n / 4096),.int .u8 (128+n / 64%64),.int .u8 (128+n%64)]:=by unfold runeCells;rw[encodeRuneZ_three (by omega)];rfl
  have HO:=qaa (qzn W n _ 3 rfl hc);go_enter func246,ntmps246;go_wp2;go_ret;exact⟨_,rfl,HO.out.1,HO.out.2⟩
 have hc:runeCells n=[.int .u8 (240+n / 262144),.int .u8 (128+n / 4096%64),.int .u8 (128+n / 64%64),.int .u8 (128+n%64)]:=by unfold runeCells;rw[encodeRuneZ_four (by omega) (by omega)];rfl
 have HO:=qaa (qzn W n _ 4 rfl hc);go_enter func246,ntmps246;go_wp2;go_ret;exact⟨_,rfl,HO.out.1,HO.out.2⟩
theorem qp3 (l:List UInt8):strCells ⟨l.toArray⟩=l.map qav:=by
 unfold strCells;simp[qav]
theorem qaL {W':World}{base:Nat}{v v':Value}{bs l:List UInt8}(h:Own W base v bs)(hown:W'.ownsRow base 5 1 v' (bs.length+(⟨l.toArray⟩:ByteArray).size) (bs.map qav++strCells ⟨l.toArray⟩))(hg:W.grownBy W' v.ownBlock):Own W' base v' (bs++l)∧Below base W W':=by
 obtain⟨ho,hb,_⟩:=h;have hB:=qaz (Below.refl base W) ho hg hb;have hs:(⟨l.toArray⟩:ByteArray).size=l.length:=List.size_toArray ..;rw[hs,qp3] at hown;refine⟨⟨by rw[List.length_append,List.map_append];exact hown,Nat.le_trans hb hB.size,?_⟩,hB⟩;rcases hown.2 with ⟨e,_⟩|⟨g,cap,cur,e,_⟩
 ·exact⟨none,0,0,e⟩
 exact⟨_,_,_,e⟩
theorem qjn (W:World)(base:Nat)(v:Value)(bs l:List UInt8)(hl:bs.length≤999999999)(hl2:l.length≤999999999)(h:Own W base v bs):Calls prog 164 #[v,.string ⟨l.toArray⟩] W fun e W'=>∃v',e=.returned v'∧Own W' base v' (bs++(qaj 3 l.length++l))∧Below base W W':=by
 obtain⟨i0,hi,hz0,hz1,hz2⟩:=info_parts Tryz.infoU8;have cH:Calls prog 163 #[v,.int .u8 3,.int .u64 l.length] W fun e W'=>∃v',e=.returned v'∧Own W' base v' (bs++qaj 3 l.length)∧Below base W W':=qbl W base v bs 3 l.length (by decide) (by omega) hl h;have hcl:(qaj 3 l.length).length≤9:=by
  unfold qaj;have hb:∀x k,(beF x k).length=k:=fun x k=>by induction k with|zero=>rfl|succ k ih=>rw[beF,List.length_cons,ih]
  repeat' split
  all_goals simp[hb]
 have hsz:(⟨l.toArray⟩:ByteArray).size=l.length:=List.size_toArray ..;obtain⟨_,_,a,n,c,rfl⟩:=h;go_enter func164,ntmps164
 go_wp2_with (first
  |(go_at_call 163;refine cH.mono ?_;rintro e w2 ⟨v2,rfl,h2,hB2⟩;obtain⟨o2,b2,a2,n2,c2,rfl⟩:=h2;have HO2:Hid (Own w2 base (.slice a2 n2 c2) (bs++qaj 3 l.length)):=⟨o2,b2,_,_,_,rfl⟩;have HB2:=qaa hB2)
  |(at_builtin;refine wpList_append_own_string _ rfl _ _ 28 9 rfl base 5 i0 underlying28 underlying9 hi hz0 hz1 hz2 _ _ _ rfl HO2.out.1 ⟨l.toArray⟩ rfl (by rw[hsz,List.length_append];unfold maxLen;omega) (by rw[hsz,List.length_append];omega) HO2.out.2.1 ?_;intro v' w5 hown' hgrow5 hnil5;have HN:=qaa (qaL HO2.out hown' hgrow5)))
 go_ret;rw[List.append_assoc] at HN;exact⟨_,rfl,HN.out.1,HB2.out.trans HN.out.2⟩
def qa2 (x:Nat):List UInt8:=if x<32 then [UInt8.ofNat (160+x)] else if x≤255 then 217::beF x 1 else if x≤65535 then 218::beF x 2 else 219::beF x 4
theorem qh4:∀x:Fin 32,bits .or .u8 160 (x.val:Int)=((160+x.val:Nat):Int):=by decide
theorem qmX (W:World)(base:Nat)(v:Value)(bs:List UInt8)(x:Nat)(hx:x<4294967296)(hl:bs.length≤999999999)(h:Own W base v bs):Calls prog 203 #[v,.int .u64 x] W fun e W'=>∃v',e=.returned v'∧Own W' base v' (bs++qa2 x)∧Below base W W':=by
 obtain⟨i0,hi,hz0,hz1,hz2⟩:=info_parts Tryz.infoU8;obtain⟨ho,hb,a,n,c,rfl⟩:=h;have HO:=qaa ho;by_cases c0:x<32
 ·have hr:Hid (qa2 x=[UInt8.ofNat (160+x)]):=by show _=_;unfold qa2;rw[if_pos c0]
  have hor:=qh4 ⟨x,c0⟩;simp only[] at hor;have HV:Hid (qav (UInt8.ofNat (160+x))=.int .u8 (bits .or .u8 160 (x:Int))):=by show _=_;rw[hor,qaQ _ (by omega)]
  have HV2:Hid (qav (UInt8.ofNat (160+x))=.int .u8 (160+(x:Int))):=by show _=_;rw[qaQ _ (by omega)];simp
  go_enter func203,ntmps203
  go_wp2_with (first
   |(at_builtin;refine wpList_append_own _ rfl _ _ 28 rfl base 5 i0 (.int .u8 0) 1 1 underlying28 hi hz0 hz1 hz2 rfl (by decide) _ _ _ rfl (HO.out.alloc _) ⟨W.heap.size,0,none⟩ 1 1 [.int .u8 (bits .or .u8 160 (x:Int))] rfl rfl (qag _ _ _) (fun u hu=>by simp at hu;subst hu;rfl) (by unfold maxLen;omega) (by omega) (by simp;omega) ?_;intro v' w5 hown' hgrow5 hnil5;have HB:=qaa (qax hb HO.out HV.out hown' hgrow5);obtain⟨g5,cap5,rfl⟩:=ownsRow_succ hown')
   |(at_builtin;refine wpList_append_own _ rfl _ _ 28 rfl base 5 i0 (.int .u8 0) 1 1 underlying28 hi hz0 hz1 hz2 rfl (by decide) _ _ _ rfl (HO.out.alloc _) ⟨W.heap.size,0,none⟩ 1 1 [.int .u8 (160+(x:Int))] rfl rfl (qag _ _ _) (fun u hu=>by simp at hu;subst hu;rfl) (by unfold maxLen;omega) (by omega) (by simp;omega) ?_;intro v' w5 hown' hgrow5 hnil5;have HB:Hid (Own w5 base v' (bs++[UInt8.ofNat (160+x)])∧Below base W w5):=qax hb HO.out HV2.out hown' hgrow5;obtain⟨g5,cap5,rfl⟩:=ownsRow_succ hown'))
  go_ret;rw[hr.out];exact⟨_,rfl,HB.out⟩
 by_cases c1:x≤255
 ·have hr:Hid (qa2 x=217::beF x 1):=by show _=_;unfold qa2;rw[if_neg c0];rw[if_pos c1]
  go_enter func203,ntmps203
  go_wp2_with (first
   |(at_builtin;refine wpList_append_own _ rfl _ _ 28 rfl base 5 i0 (.int .u8 0) 1 1 underlying28 hi hz0 hz1 hz2 rfl (by decide) _ _ _ rfl (HO.out.alloc _) ⟨W.heap.size,0,none⟩ 1 1 [.int .u8 217] rfl rfl (qag _ _ _) (fun u hu=>by simp at hu;subst hu;rfl) (by unfold maxLen;omega) (by omega) (by simp;omega) ?_;intro v' w5 hown' hgrow5 hnil5;have HB:Hid (Own w5 base v' (bs++[217])∧Below base W w5):=qax hb HO.out rfl hown' hgrow5;obtain⟨g5,cap5,rfl⟩:=ownsRow_succ hown')
   |(go_at_call 202;refine(qaq _ base _ _ x 1 (by omega) (by omega) (by simp;omega) HB.out.1).mono ?_;rintro e w6 ⟨v6,rfl,h6,hB6⟩;obtain⟨h61,h62,a6,n6,c6,rfl⟩:=h6;have HC:=qaa (qaJ HB.out ⟨h61,h62,a6,n6,c6,rfl⟩ hB6 (hr.out.symm))))
  go_ret;exact⟨_,rfl,HC.out⟩
 by_cases c2:x≤65535
 ·have hr:Hid (qa2 x=218::beF x 2):=by show _=_;unfold qa2;rw[if_neg c0];rw[if_neg c1];rw[if_pos c2]
  go_enter func203,ntmps203
  go_wp2_with (first
   |(at_builtin;refine wpList_append_own _ rfl _ _ 28 rfl base 5 i0 (.int .u8 0) 1 1 underlying28 hi hz0 hz1 hz2 rfl (by decide) _ _ _ rfl (HO.out.alloc _) ⟨W.heap.size,0,none⟩ 1 1 [.int .u8 218] rfl rfl (qag _ _ _) (fun u hu=>by simp at hu;subst hu;rfl) (by unfold maxLen;omega) (by omega) (by simp;omega) ?_;intro v' w5 hown' hgrow5 hnil5;have HB:Hid (Own w5 base v' (bs++[218])∧Below base W w5):=qax hb HO.out rfl hown' hgrow5;obtain⟨g5,cap5,rfl⟩:=ownsRow_succ hown')
   |(go_at_call 202;refine(qaq _ base _ _ x 2 (by omega) (by omega) (by simp;omega) HB.out.1).mono ?_;rintro e w6 ⟨v6,rfl,h6,hB6⟩;obtain⟨h61,h62,a6,n6,c6,rfl⟩:=h6;have HC:=qaa (qaJ HB.out ⟨h61,h62,a6,n6,c6,rfl⟩ hB6 (hr.out.symm))))
  go_ret;exact⟨_,rfl,HC.out⟩
 have hr:Hid (qa2 x=219::beF x 4):=by show _=_;unfold qa2;rw[if_neg c0];rw[if_neg c1];rw[if_neg c2]
 go_enter func203,ntmps203
 go_wp2_with (first
  |(at_builtin;refine wpList_append_own _ rfl _ _ 28 rfl base 5 i0 (.int .u8 0) 1 1 underlying28 hi hz0 hz1 hz2 rfl (by decide) _ _ _ rfl (HO.out.alloc _) ⟨W.heap.size,0,none⟩ 1 1 [.int .u8 219] rfl rfl (qag _ _ _) (fun u hu=>by simp at hu;subst hu;rfl) (by unfold maxLen;omega) (by omega) (by simp;omega) ?_;intro v' w5 hown' hgrow5 hnil5;have HB:Hid (Own w5 base v' (bs++[219])∧Below base W w5):=qax hb HO.out rfl hown' hgrow5;obtain⟨g5,cap5,rfl⟩:=ownsRow_succ hown')
  |(go_at_call 202;refine(qaq _ base _ _ x 4 (by omega) (by omega) (by simp;omega) HB.out.1).mono ?_;rintro e w6 ⟨v6,rfl,h6,hB6⟩;obtain⟨h61,h62,a6,n6,c6,rfl⟩:=h6;have HC:=qaa (qaJ HB.out ⟨h61,h62,a6,n6,c6,rfl⟩ hB6 (hr.out.symm))))
 go_ret;exact⟨_,rfl,HC.out⟩
theorem qj4 (W:World)(base:Nat)(v:Value)(bs l:List UInt8)(hl:bs.length≤999999999)(hl2:l.length≤999999999)(h:Own W base v bs):Calls prog 167 #[v,.string ⟨l.toArray⟩] W fun e W'=>∃v',e=.returned v'∧Own W' base v' (bs++(qa2 l.length++l))∧Below base W W':=by
 obtain⟨i0,hi,hz0,hz1,hz2⟩:=info_parts Tryz.infoU8;have cH:=qmX W base v bs l.length (by omega) hl h;have hcl:(qa2 l.length).length≤9:=by
  unfold qa2;have hb:∀x k,(beF x k).length=k:=fun x k=>by induction k with|zero=>rfl|succ k ih=>rw[beF,List.length_cons,ih]
  repeat' split
  all_goals simp[hb]
 have hsz:(⟨l.toArray⟩:ByteArray).size=l.length:=List.size_toArray ..;obtain⟨_,_,a,n,c,rfl⟩:=h;go_enter func167,ntmps167
 go_wp2_with (first
  |(go_at_call 203;refine cH.mono ?_;rintro e w2 ⟨v2,rfl,h2,hB2⟩;obtain⟨o2,b2,a2,n2,c2,rfl⟩:=h2;have HO2:Hid (Own w2 base (.slice a2 n2 c2) (bs++qa2 l.length)):=⟨o2,b2,_,_,_,rfl⟩;have HB2:=qaa hB2)
  |(at_builtin;refine wpList_append_own_string _ rfl _ _ 28 9 rfl base 5 i0 underlying28 underlying9 hi hz0 hz1 hz2 _ _ _ rfl HO2.out.1 ⟨l.toArray⟩ rfl (by rw[hsz,List.length_append];unfold maxLen;omega) (by rw[hsz,List.length_append];omega) HO2.out.2.1 ?_;intro v' w5 hown' hgrow5 hnil5;have HN:=qaa (qaL HO2.out hown' hgrow5)))
 go_ret;rw[List.append_assoc] at HN;exact⟨_,rfl,HN.out.1,HB2.out.trans HN.out.2⟩
def qb8 (x:Nat):List UInt8:=if x≤255 then 196::beF x 1 else if x≤65535 then 197::beF x 2 else 198::beF x 4
def qbB (x:Nat):List UInt8:=if x<16 then [UInt8.ofNat (144+x)] else if x≤65535 then 220::beF x 2 else 221::beF x 4
def qb2 (x:Nat):List UInt8:=if x<16 then [UInt8.ofNat (128+x)] else if x≤65535 then 222::beF x 2 else 223::beF x 4
theorem qmA:∀x:Fin 16,bits .or .u8 144 (x.val:Int)=((144+x.val:Nat):Int):=by decide
theorem qng:∀x:Fin 16,bits .or .u8 128 (x.val:Int)=((128+x.val:Nat):Int):=by decide
theorem qnh (W:World)(base:Nat)(v:Value)(bs:List UInt8)(x:Nat)(hx:x<4294967296)(hl:bs.length≤999999999)(h:Own W base v bs):Calls prog 168 #[v,.int .u64 x] W fun e W'=>∃v',e=.returned v'∧Own W' base v' (bs++qb8 x)∧Below base W W':=by
 obtain⟨i0,hi,hz0,hz1,hz2⟩:=info_parts Tryz.infoU8;obtain⟨ho,hb,a,n,c,rfl⟩:=h;have HO:=qaa ho;by_cases c1:x≤255
 ·have hr:Hid (qb8 x=196::beF x 1):=by show _=_;unfold qb8;rw[if_pos c1]
  go_enter func168,ntmps168
  go_wp2_with (first
   |(at_builtin;refine wpList_append_own _ rfl _ _ 28 rfl base 5 i0 (.int .u8 0) 1 1 underlying28 hi hz0 hz1 hz2 rfl (by decide) _ _ _ rfl (HO.out.alloc _) ⟨W.heap.size,0,none⟩ 1 1 [.int .u8 196] rfl rfl (qag _ _ _) (fun u hu=>by simp at hu;subst hu;rfl) (by unfold maxLen;omega) (by omega) (by simp;omega) ?_;intro v' w5 hown' hgrow5 hnil5;have HB:Hid (Own w5 base v' (bs++[196])∧Below base W w5):=qax hb HO.out rfl hown' hgrow5;obtain⟨g5,cap5,rfl⟩:=ownsRow_succ hown')
   |(go_at_call 202;refine(qaq _ base _ _ x 1 (by omega) (by omega) (by simp;omega) HB.out.1).mono ?_;rintro e w6 ⟨v6,rfl,h6,hB6⟩;obtain⟨h61,h62,a6,n6,c6,rfl⟩:=h6;have HC:=qaa (qaJ HB.out ⟨h61,h62,a6,n6,c6,rfl⟩ hB6 (hr.out.symm))))
  go_ret;exact⟨_,rfl,HC.out⟩
 by_cases c2:x≤65535
 ·have hr:Hid (qb8 x=197::beF x 2):=by show _=_;unfold qb8;rw[if_neg c1];rw[if_pos c2]
  go_enter func168,ntmps168
  go_wp2_with (first
   |(at_builtin;refine wpList_append_own _ rfl _ _ 28 rfl base 5 i0 (.int .u8 0) 1 1 underlying28 hi hz0 hz1 hz2 rfl (by decide) _ _ _ rfl (HO.out.alloc _) ⟨W.heap.size,0,none⟩ 1 1 [.int .u8 197] rfl rfl (qag _ _ _) (fun u hu=>by simp at hu;subst hu;rfl) (by unfold maxLen;omega) (by omega) (by simp;omega) ?_;intro v' w5 hown' hgrow5 hnil5;have HB:Hid (Own w5 base v' (bs++[197])∧Below base W w5):=qax hb HO.out rfl hown' hgrow5;obtain⟨g5,cap5,rfl⟩:=ownsRow_succ hown')
   |(go_at_call 202;refine(qaq _ base _ _ x 2 (by omega) (by omega) (by simp;omega) HB.out.1).mono ?_;rintro e w6 ⟨v6,rfl,h6,hB6⟩;obtain⟨h61,h62,a6,n6,c6,rfl⟩:=h6;have HC:=qaa (qaJ HB.out ⟨h61,h62,a6,n6,c6,rfl⟩ hB6 (hr.out.symm))))
  go_ret;exact⟨_,rfl,HC.out⟩
 have hr:Hid (qb8 x=198::beF x 4):=by show _=_;unfold qb8;rw[if_neg c1];rw[if_neg c2]
 go_enter func168,ntmps168
 go_wp2_with (first
  |(at_builtin;refine wpList_append_own _ rfl _ _ 28 rfl base 5 i0 (.int .u8 0) 1 1 underlying28 hi hz0 hz1 hz2 rfl (by decide) _ _ _ rfl (HO.out.alloc _) ⟨W.heap.size,0,none⟩ 1 1 [.int .u8 198] rfl rfl (qag _ _ _) (fun u hu=>by simp at hu;subst hu;rfl) (by unfold maxLen;omega) (by omega) (by simp;omega) ?_;intro v' w5 hown' hgrow5 hnil5;have HB:Hid (Own w5 base v' (bs++[198])∧Below base W w5):=qax hb HO.out rfl hown' hgrow5;obtain⟨g5,cap5,rfl⟩:=ownsRow_succ hown')
  |(go_at_call 202;refine(qaq _ base _ _ x 4 (by omega) (by omega) (by simp;omega) HB.out.1).mono ?_;rintro e w6 ⟨v6,rfl,h6,hB6⟩;obtain⟨h61,h62,a6,n6,c6,rfl⟩:=h6;have HC:=qaa (qaJ HB.out ⟨h61,h62,a6,n6,c6,rfl⟩ hB6 (hr.out.symm))))
 go_ret;exact⟨_,rfl,HC.out⟩
theorem qmr (W:World)(base:Nat)(v:Value)(bs:List UInt8)(x:Nat)(hx:x<4294967296)(hl:bs.length≤999999999)(h:Own W base v bs):Calls prog 169 #[v,.int .u8 144,.int .u8 220,.int .u64 x] W fun e W'=>∃v',e=.returned v'∧Own W' base v' (bs++qbB x)∧Below base W W':=by
 obtain⟨i0,hi,hz0,hz1,hz2⟩:=info_parts Tryz.infoU8;obtain⟨ho,hb,a,n,c,rfl⟩:=h;have HO:=qaa ho;by_cases c0:x<16
 ·have hr:Hid (qbB x=[UInt8.ofNat (144+x)]):=by show _=_;unfold qbB;rw[if_pos c0]
  have hor:=qmA ⟨x,c0⟩;simp only[] at hor;have HV:Hid (qav (UInt8.ofNat (144+x))=.int .u8 (bits .or .u8 144 (x:Int))):=by show _=_;rw[hor,qaQ _ (by omega)]
  have HV2:Hid (qav (UInt8.ofNat (144+x))=.int .u8 (144+(x:Int))):=by show _=_;rw[qaQ _ (by omega)];simp
  go_enter func169,ntmps169
  go_wp2_with (first
   |(at_builtin;refine wpList_append_own _ rfl _ _ 28 rfl base 5 i0 (.int .u8 0) 1 1 underlying28 hi hz0 hz1 hz2 rfl (by decide) _ _ _ rfl (HO.out.alloc _) ⟨W.heap.size,0,none⟩ 1 1 [.int .u8 (bits .or .u8 144 (x:Int))] rfl rfl (qag _ _ _) (fun u hu=>by simp at hu;subst hu;rfl) (by unfold maxLen;omega) (by omega) (by simp;omega) ?_;intro v' w5 hown' hgrow5 hnil5;have HB:=qaa (qax hb HO.out HV.out hown' hgrow5);obtain⟨g5,cap5,rfl⟩:=ownsRow_succ hown')
   |(at_builtin;refine wpList_append_own _ rfl _ _ 28 rfl base 5 i0 (.int .u8 0) 1 1 underlying28 hi hz0 hz1 hz2 rfl (by decide) _ _ _ rfl (HO.out.alloc _) ⟨W.heap.size,0,none⟩ 1 1 [.int .u8 (144+(x:Int))] rfl rfl (qag _ _ _) (fun u hu=>by simp at hu;subst hu;rfl) (by unfold maxLen;omega) (by omega) (by simp;omega) ?_;intro v' w5 hown' hgrow5 hnil5;have HB:Hid (Own w5 base v' (bs++[UInt8.ofNat (144+x)])∧Below base W w5):=qax hb HO.out HV2.out hown' hgrow5;obtain⟨g5,cap5,rfl⟩:=ownsRow_succ hown'))
  go_ret;rw[hr.out];exact⟨_,rfl,HB.out⟩
 by_cases c2:x≤65535
 ·have hr:Hid (qbB x=220::beF x 2):=by show _=_;unfold qbB;rw[if_neg c0];rw[if_pos c2]
  go_enter func169,ntmps169
  go_wp2_with (first
   |(at_builtin;refine wpList_append_own _ rfl _ _ 28 rfl base 5 i0 (.int .u8 0) 1 1 underlying28 hi hz0 hz1 hz2 rfl (by decide) _ _ _ rfl (HO.out.alloc _) ⟨W.heap.size,0,none⟩ 1 1 [.int .u8 220] rfl rfl (qag _ _ _) (fun u hu=>by simp at hu;subst hu;rfl) (by unfold maxLen;omega) (by omega) (by simp;omega) ?_;intro v' w5 hown' hgrow5 hnil5;have HB:Hid (Own w5 base v' (bs++[220])∧Below base W w5):=qax hb HO.out rfl hown' hgrow5;obtain⟨g5,cap5,rfl⟩:=ownsRow_succ hown')
   |(go_at_call 202;refine(qaq _ base _ _ x 2 (by omega) (by omega) (by simp;omega) HB.out.1).mono ?_;rintro e w6 ⟨v6,rfl,h6,hB6⟩;obtain⟨h61,h62,a6,n6,c6,rfl⟩:=h6;have HC:=qaa (qaJ HB.out ⟨h61,h62,a6,n6,c6,rfl⟩ hB6 (hr.out.symm))))
  go_ret;exact⟨_,rfl,HC.out⟩
 have hr:Hid (qbB x=221::beF x 4):=by show _=_;unfold qbB;rw[if_neg c0];rw[if_neg c2]
 go_enter func169,ntmps169
 go_wp2_with (first
  |(at_builtin;refine wpList_append_own _ rfl _ _ 28 rfl base 5 i0 (.int .u8 0) 1 1 underlying28 hi hz0 hz1 hz2 rfl (by decide) _ _ _ rfl (HO.out.alloc _) ⟨W.heap.size,0,none⟩ 1 1 [.int .u8 221] rfl rfl (qag _ _ _) (fun u hu=>by simp at hu;subst hu;rfl) (by unfold maxLen;omega) (by omega) (by simp;omega) ?_;intro v' w5 hown' hgrow5 hnil5;have HB:Hid (Own w5 base v' (bs++[221])∧Below base W w5):=qax hb HO.out rfl hown' hgrow5;obtain⟨g5,cap5,rfl⟩:=ownsRow_succ hown')
  |(go_at_call 202;refine(qaq _ base _ _ x 4 (by omega) (by omega) (by simp;omega) HB.out.1).mono ?_;rintro e w6 ⟨v6,rfl,h6,hB6⟩;obtain⟨h61,h62,a6,n6,c6,rfl⟩:=h6;have HC:=qaa (qaJ HB.out ⟨h61,h62,a6,n6,c6,rfl⟩ hB6 (hr.out.symm))))
 go_ret;exact⟨_,rfl,HC.out⟩
theorem qm5 (W:World)(base:Nat)(v:Value)(bs:List UInt8)(x:Nat)(hx:x<4294967296)(hl:bs.length≤999999999)(h:Own W base v bs):Calls prog 169 #[v,.int .u8 128,.int .u8 222,.int .u64 x] W fun e W'=>∃v',e=.returned v'∧Own W' base v' (bs++qb2 x)∧Below base W W':=by
 obtain⟨i0,hi,hz0,hz1,hz2⟩:=info_parts Tryz.infoU8;obtain⟨ho,hb,a,n,c,rfl⟩:=h;have HO:=qaa ho;by_cases c0:x<16
 ·have hr:Hid (qb2 x=[UInt8.ofNat (128+x)]):=by show _=_;unfold qb2;rw[if_pos c0]
  have hor:=qng ⟨x,c0⟩;simp only[] at hor;have HV:Hid (qav (UInt8.ofNat (128+x))=.int .u8 (bits .or .u8 128 (x:Int))):=by show _=_;rw[hor,qaQ _ (by omega)]
  have HV2:Hid (qav (UInt8.ofNat (128+x))=.int .u8 (128+(x:Int))):=by show _=_;rw[qaQ _ (by omega)];simp
  go_enter func169,ntmps169
  go_wp2_with (first
   |(at_builtin;refine wpList_append_own _ rfl _ _ 28 rfl base 5 i0 (.int .u8 0) 1 1 underlying28 hi hz0 hz1 hz2 rfl (by decide) _ _ _ rfl (HO.out.alloc _) ⟨W.heap.size,0,none⟩ 1 1 [.int .u8 (bits .or .u8 128 (x:Int))] rfl rfl (qag _ _ _) (fun u hu=>by simp at hu;subst hu;rfl) (by unfold maxLen;omega) (by omega) (by simp;omega) ?_;intro v' w5 hown' hgrow5 hnil5;have HB:Hid (Own w5 base v' (bs++[UInt8.ofNat (128+x)])∧Below base W w5):=qax hb HO.out HV.out hown' hgrow5;obtain⟨g5,cap5,rfl⟩:=ownsRow_succ hown')
   |(at_builtin;refine wpList_append_own _ rfl _ _ 28 rfl base 5 i0 (.int .u8 0) 1 1 underlying28 hi hz0 hz1 hz2 rfl (by decide) _ _ _ rfl (HO.out.alloc _) ⟨W.heap.size,0,none⟩ 1 1 [.int .u8 (128+(x:Int))] rfl rfl (qag _ _ _) (fun u hu=>by simp at hu;subst hu;rfl) (by unfold maxLen;omega) (by omega) (by simp;omega) ?_;intro v' w5 hown' hgrow5 hnil5;have HB:=qaa (qax hb HO.out HV2.out hown' hgrow5);obtain⟨g5,cap5,rfl⟩:=ownsRow_succ hown'))
  go_ret;rw[hr.out];exact⟨_,rfl,HB.out⟩
 by_cases c2:x≤65535
 ·have hr:Hid (qb2 x=222::beF x 2):=by show _=_;unfold qb2;rw[if_neg c0];rw[if_pos c2]
  go_enter func169,ntmps169
  go_wp2_with (first
   |(at_builtin;refine wpList_append_own _ rfl _ _ 28 rfl base 5 i0 (.int .u8 0) 1 1 underlying28 hi hz0 hz1 hz2 rfl (by decide) _ _ _ rfl (HO.out.alloc _) ⟨W.heap.size,0,none⟩ 1 1 [.int .u8 222] rfl rfl (qag _ _ _) (fun u hu=>by simp at hu;subst hu;rfl) (by unfold maxLen;omega) (by omega) (by simp;omega) ?_;intro v' w5 hown' hgrow5 hnil5;have HB:Hid (Own w5 base v' (bs++[222])∧Below base W w5):=qax hb HO.out rfl hown' hgrow5;obtain⟨g5,cap5,rfl⟩:=ownsRow_succ hown')
   |(go_at_call 202;refine(qaq _ base _ _ x 2 (by omega) (by omega) (by simp;omega) HB.out.1).mono ?_;rintro e w6 ⟨v6,rfl,h6,hB6⟩;obtain⟨h61,h62,a6,n6,c6,rfl⟩:=h6;have HC:=qaa (qaJ HB.out ⟨h61,h62,a6,n6,c6,rfl⟩ hB6 (hr.out.symm))))
  go_ret;exact⟨_,rfl,HC.out⟩
 have hr:Hid (qb2 x=223::beF x 4):=by show _=_;unfold qb2;rw[if_neg c0];rw[if_neg c2]
 go_enter func169,ntmps169
 go_wp2_with (first
  |(at_builtin;refine wpList_append_own _ rfl _ _ 28 rfl base 5 i0 (.int .u8 0) 1 1 underlying28 hi hz0 hz1 hz2 rfl (by decide) _ _ _ rfl (HO.out.alloc _) ⟨W.heap.size,0,none⟩ 1 1 [.int .u8 223] rfl rfl (qag _ _ _) (fun u hu=>by simp at hu;subst hu;rfl) (by unfold maxLen;omega) (by omega) (by simp;omega) ?_;intro v' w5 hown' hgrow5 hnil5;have HB:Hid (Own w5 base v' (bs++[223])∧Below base W w5):=qax hb HO.out rfl hown' hgrow5;obtain⟨g5,cap5,rfl⟩:=ownsRow_succ hown')
  |(go_at_call 202;refine(qaq _ base _ _ x 4 (by omega) (by omega) (by simp;omega) HB.out.1).mono ?_;rintro e w6 ⟨v6,rfl,h6,hB6⟩;obtain⟨h61,h62,a6,n6,c6,rfl⟩:=h6;have HC:=qaa (qaJ HB.out ⟨h61,h62,a6,n6,c6,rfl⟩ hB6 (hr.out.symm))))
 go_ret;exact⟨_,rfl,HC.out⟩
end
end Go.Proofs.YtllcbnfmihfaaaaGreatDoor
