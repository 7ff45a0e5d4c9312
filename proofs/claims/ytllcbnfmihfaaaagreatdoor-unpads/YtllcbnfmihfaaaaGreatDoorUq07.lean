import Derived.Test.YtllcbnfmihfaaaaGreatDoorUq05
set_option maxRecDepth 100000
set_option maxHeartbeats 8000000
namespace Go.Proofs.YtllcbnfmihfaaaaGreatDoor
open Go.Proofs.Tryz
section
open Go.RowKit
theorem qfl {P:Program}{fn:Func}{p q u:Tmp}{ty ty2:TypeId}(h:fn.results=#[.cell p ty,.tmp u,.cell q ty2])(tmps:Array Value)(w:World)(g g2:Nat)(t t2:TypeId)(cs cs2:Array Value)(fr fr2:Nat×Nat)(d d2:TypeDesc)(hp:tmps.getD p undef=.pointer (some ⟨g,0,none⟩))(hg:w.heap[g]? = some (.cells cs t fr))(hu:P.underlying ty=some d)(hd:(match d with|.struct _|.array _ _=>true|_=>false)=true)(hi:(P.info? ty).map (·.size)=some cs.size)(hp2:tmps.getD q undef=.pointer (some ⟨g2,0,none⟩))(hg2:w.heap[g2]? = some (.cells cs2 t2 fr2))(hu2:P.underlying ty2=some d2)(hd2:(match d2 with|.struct _|.array _ _=>true|_=>false)=true)(hi2:(P.info? ty2).map (·.size)=some cs2.size)(v:Value)(hv:tmps.getD u undef=v):(results fn tmps).run P w=.ok (.tuple #[.agg cs,v,.agg cs2]) w:=by
 have e:(results fn tmps).run P w=((asAddr (tmps.getD p undef)).run P w).andThen fun a w₁=>((loadVar ty a).run P w₁).andThen fun v w₂=>((asAddr (tmps.getD q undef)).run P w₂).andThen fun a2 w₃=>((loadVar ty2 a2).run P w₃).andThen fun v2 w₄=>.ok (.tuple #[v,tmps.getD u undef,v2]) w₄:=by
  simp only[results,h]
  simp[Sem.run_bind,Result.andThen]
 subst hv
 rw[e,hp,hp2]
 simp only[asAddr,Sem.run_pure,Result.andThen_ok,run_loadVar_row w g t ty cs fr d hg hu hd hi,run_loadVar_row w g2 t2 ty2 cs2 fr2 d2 hg2 hu2 hd2 hi2]
def qaf:Value:=.slice none 0 0
def thA (kind n:Int)(s:ByteArray)(ks vs:Value):Array Value:=#[.int .i64 kind,.int .i64 n,.string s,ks,vs]
def th0:Array Value:=thA 0 0 ⟨#[]⟩ qaf qaf
theorem qcw:(prog.info? 93).map (·.size)=some 5:=by kernel_rfl
theorem qcx (k n:Int)(s:ByteArray)(ks vs:Value):(prog.info? 93).map (·.size)=some (thA k n s ks vs).size:=qcw
structure RTh (W:World)(A:Array Value)(V:World):Prop where
 box:V.heap[W.heap.size]? = some (.cells A 143)
 th:V.heap[W.heap.size+1]? = some (.cells th0 93)
 flt:V.heap[W.heap.size+2]? = some (.cells (qae (0,0)) 95)
 below:Below W.heap.size W V
theorem RTh.next {W V V':World}{A:Array Value}(h:RTh W A V)(hb:Below V.heap.size V V'):RTh W A V' :=
 ⟨(hb.block _ (ltA h.box)).trans h.box,(hb.block _ (ltA h.th)).trans h.th,(hb.block _ (ltA h.flt)).trans h.flt,h.below.trans (hb.mono h.below.size)⟩
theorem RTh.drew {W V:World}{A:Array Value}(h:RTh W A V):RTh W A V.drew:=⟨h.box,h.th,h.flt,h.below.drew⟩
theorem qkt (W:World)(A:Array Value):RTh W A (((W.alloc (.cells A 143)).alloc (.cells th0 93)).alloc (.cells (qae (0,0)) 95)) :=
 ⟨((Below.heap_alloc _ _ _ (by simp;omega)).trans (Below.heap_alloc _ _ _ (by simp))).trans (qab _ _),(Below.heap_alloc _ _ _ (by simp)).trans (by have:=qab (W.alloc (.cells A 143)) (.cells th0 93);simpa using this),by have:=qab ((W.alloc (.cells A 143)).alloc (.cells th0 93)) (.cells (qae (0,0)) 95);simpa using this,((bwA).alloc (by simp) _).alloc (by simp;omega) _⟩
theorem qao {W V V':World}{A:Array Value}(h:RTh W A V)(hb:Below V.heap.size V V')(y:Array Value)(x:Int×Int):((V'.setRow (W.heap.size+1) y).setRow (W.heap.size+2) (qae x)).heap[W.heap.size+1]? = some (.cells y 93)∧((V'.setRow (W.heap.size+1) y).setRow (W.heap.size+2) (qae x)).heap[W.heap.size+2]? = some (.cells (qae x) 95)∧Below W.heap.size W ((V'.setRow (W.heap.size+1) y).setRow (W.heap.size+2) (qae x)):=by
 have h2:=h.next hb
 refine⟨?_,?_,qai (qai h2.below (by omega) _) (by omega) _⟩
 ·rw[setRow_other _ _ _ _ (by omega)]
  exact setRow_heap _ _ _ _ _ _ h2.th
 ·exact setRow_heap _ _ _ _ _ _ (sx (by omega) h2.flt)
theorem qan {W V V':World}{A:Array Value}(h:RTh W A V)(hb:Below V.heap.size V V')(y:Array Value):(V'.setRow (W.heap.size+1) y).heap[W.heap.size+2]? = some (.cells (qae (0,0)) 95):=sx (by omega) (h.next hb).flt
theorem qhR (k n:Int)(s:ByteArray)(a b:Option Addr)(i j p q:Nat):(thA k n s (.slice a i j) (.slice b p q)).all (·.oneCell')=true:=by simp[thA,Value.oneCell']
def qnI (r:Except (Int×Int) (Int×Nat))(e:Ending):Prop:=match r with
 |.ok (z,q)=>e=.returned (.tuple #[.agg (thA 3 z ⟨#[]⟩ qaf qaf),.int .i64 q,.agg (qae (0,0))])
 |.error f=>e=.returned (.tuple #[.agg th0,.int .i64 0,.agg (qae f)])
theorem qmW (num d:Nat)(hd:d≤9):(-(num:Int)<(-9223372036854775808+(d:Int)).tdiv 10)↔(9223372036854775808-d) / 10<num:=by
 have e:(-9223372036854775808+(d:Int)) = -((9223372036854775808-d:Nat):Int):=by omega
 rw[e,Int.neg_tdiv,show((10:Int))=((10:Nat):Int) from rfl,←Int.ofNat_tdiv]
 omega
def ThG (T:Array Value):Prop:=T.size=5∧T.all (·.oneCell')=true
theorem thg {k n:Int}{s:ByteArray}{a b:Option Addr}{i j p q:Nat}:ThG (thA k n s (.slice a i j) (.slice b p q)):=⟨rfl,qhR _ _ _ _ _ _ _ _ _⟩
theorem stT {ops:Array Oper}{rest:List Oper}{o:Oper}{a:Act}{w:World}{Q:Exit→Act→World→Prop}(x y:Nat)(hgd:o.guard=none)(ho:o.op=.store 93 (.tmp x) (.tmp y))(g:Nat)(T:Array Value)(hx:a.eval (.tmp x)=.pointer (some ⟨g,0,none⟩))(hy:a.eval (.tmp y)=.agg T)(hg:w.heap[g]? = some (.cells th0 93))(hT:ThG T)(h:wpList prog ops Q rest (a.put o.dst undef) (w.setRow g T)):wpList prog ops Q (o::rest) a w :=
 wpList_store_row hgd _ _ _ ho g _ hx hy _ _ hg (by rw[hT.1];exact qcw) (by rw[hT.1];rfl) hT.2 h
theorem qo3 {fn:Func}{p q u:Tmp}{tmps:Array Value}{w:World}{g g2:Nat}{k n:Int}{s:ByteArray}{ks vs:Value}{F:Int×Int}(h:fn.results=#[.cell p 93,.tmp u,.cell q 95])(hg:w.heap[g]? = some (.cells (thA k n s ks vs) 93))(hg2:w.heap[g2]? = some (.cells (qae F) 95))(v:Value)(hp:tmps.getD p undef=.pointer (some ⟨g,0,none⟩))(hp2:tmps.getD q undef=.pointer (some ⟨g2,0,none⟩))(hv:tmps.getD u undef=v):(results fn tmps).run prog w=.ok (.tuple #[.agg (thA k n s ks vs),v,.agg (qae F)]) w :=
 qfl h _ _ g g2 _ _ _ _ _ _ _ _ hp hg underlying93 rfl (qcx _ _ _ _ _) hp2 hg2 underlying95 rfl (qaT _) v hv
theorem eoT {fn:Func}{p q u:Tmp}{A:Act}{w:World}{g g2:Nat}{k n:Int}{s:ByteArray}{ks vs:Value}{F:Int×Int}{R:Ending→World→Prop}{B:Prop}(h:fn.results=#[.cell p 93,.tmp u,.cell q 95])(hf:w.heap[g]? = some (.cells (thA k n s ks vs) 93)∧w.heap[g2]? = some (.cells (qae F) 95)∧B)(v:Value)(hp:A.tmps.getD p undef=.pointer (some ⟨g,0,none⟩))(hp2:A.tmps.getD q undef=.pointer (some ⟨g2,0,none⟩))(hv:A.tmps.getD u undef=v)(hd:A.defers=[])(kk:R (.returned (.tuple #[.agg (thA k n s ks vs),v,.agg (qae F)])) w):bodyPost prog fn R .ret A w:=bodyPost_ret (qo3 h hf.1 hf.2.1 v hp hp2 hv) hd kk
theorem qbk (W:World)(bs:List UInt8)(fm d l:Int):Hid (RTh W (inA bs fm d l) (((W.alloc (.cells #[.string ⟨bs.toArray⟩,.int .i64 fm,.int .i64 d,.int .i64 l] 143)).alloc (.cells th0 93)).alloc (.cells (qae (0,0)) 95))):=qkt W _
theorem yT {ev:Operand→Value}{W:World}{o:Oper}(x:Nat){g:Nat}{k n:Int}{s:ByteArray}{ks vs:Value}(hg:W.heap[g]? = some (.cells (thA k n s ks vs) 93))(ho:o.op=.load 93 (.tmp x))(hx:ev (.tmp x)=.pointer (some ⟨g,0,none⟩)):(execOp ev o).run prog W=.ok (.value (.agg (thA k n s ks vs))) W :=
 qoz _ _ ho g hx _ _ _ _ hg underlying93 rfl (qcx _ _ _ _ _)
def qow (r:Except (Int×Int) (Nat×Nat)):Value:=match r with
 |.ok (x,_)=>.tuple #[.int .i64 x,.agg (qae (0,0))]
 |.error f=>.tuple #[.int .i64 0,.agg (qae f)]
theorem qb0 (W:World)(bs:List UInt8)(fm d l lim:Int)(i:Nat)(hl:Lm bs l lim)(hi:InR bs lim i)(hb:bs.length≤200000000):Calls prog 245 #[.agg (inA bs fm d l),.int .i64 i] W fun e W'=>e=.returned (qow (qbY bs lim 4 i 0))∧Below W.heap.size W W':=by
 obtain⟨R,HR⟩:∃R,Hid (qbY bs lim 4 i 0=R):=⟨_,show _=_ from rfl⟩
 rw[HR.out]
 have hil:=hi.1
 have HL:Hid (Lm bs l lim):=hl
 have HI:Hid (InR bs lim i):=hi
 have cH:=qdb bs fm d l
 have cB:=qdu bs fm d l
 clear hl hi
 unfold inA
 go_enter func245,ntmps245
 go_wp2
 go_loopg [6,7] 4 (fun g zn zk wr=>∃k num:Nat,zk=.int .i64 k∧zn=.int .i64 num∧Hid (k+g=i+4∧i≤k)∧Hid (num≤65535∧(1≤g→num*16+15≤65535)∧(2≤g→num*256+255≤65535)∧(3≤g→num*4096+4095≤65535)∧(4≤g→num=0))∧Hid (RIn W (inA bs fm d l) (W.heap.size+1) wr)∧Hid (qbY bs lim g k num=R)∧Hid (InR bs lim k))
 case atStart=>exact⟨i,0,rfl,rfl,⟨rfl,Nat.le_refl _⟩,⟨by omega,by omega,by omega,by omega,fun _=>rfl⟩,qdc _ _,HR,HI⟩
 case round =>
  clear HR HI
  obtain⟨k,num,rfl,rfl,hg,hm,HX,HR,HI⟩:=hrel
  have hkl:k≤bs.length:=HI.out.1
  have hmm:=hm.out.1
  obtain⟨c0,c1,c2,c3⟩:=qa3 HX.out.box
  have cH1:=fun V=>cH V k
  cases gk with
  |zero =>
   have hlt:¬(k:Int)<(i:Int)+4:=by have:=hg.out;omega
   have HE:Hid (R=.ok (num,k)):=by show _=_;rw[←HR.out,qbY]
   clear HR cH cH1 cB hg
   go_wp2_with (first
    |(refine stF 5 72 rfl rfl (W.heap.size+1) (0,0) rfl rfl ?_ ?_;exact HX.out.flt))
   have hf:=qay HX.out bwR (0,0)
   refine eoF results245 hf _ rfl rfl rfl ⟨?_,hf.2⟩
   rw[HE.out]
   rfl
  |succ g =>
   have hlt:(k:Int)<(i:Int)+4:=by have:=hg.out;omega
   have hr:=HR.out
   rw[qbY] at hr
   cases hc:bs[k]? with
   |none =>
    rw[hc] at hr
    simp only[] at hr
    have cB1:=fun V=>cB V k 9
    rw[qa9 hc] at cH1
    rw[qaH hkl hc] at cB1
    have HE:Hid (R=.error (9,(k:Int))):=hr.symm
    clear hr hc cB cH HR hg
    go_wp2_with (first
     |(go_at_call 113;refine ck4 (cH1 _) HX.out.next (fun _ h=>h.box) ?_;clear cH1 c0 c1 c2 c3;intro w2 HX2 c0 c1 c2 c3)
     |(go_at_call 71;refine ck4 (cB1 _) HX2.out.next (fun _ h=>h.box) ?_;clear cB1 c0 c1 c2 c3;intro w3 HX3 c0 c1 c2 c3)
     |(refine stF 5 22 rfl rfl (W.heap.size+1) (9,(k:Int)) rfl rfl ?_ ?_;exact HX3.out.flt))
    have hf:=qay HX3.out bwR (9,(k:Int))
    refine eoF results245 hf _ rfl rfl rfl ⟨?_,hf.2⟩
    rw[HE.out]
    rfl
   |some c =>
    rw[hc] at hr
    simp only[] at hr
    have hix:=fun V=>qah bs k c hc V
    have hkb:=ltL hc
    have cB1:=fun V=>cB V k 9
    by_cases hp:(k:Int)=lim
    ·rw[if_pos hp] at hr
     rw[qaJ HL.out hc hp] at cH1
     rw[qaU HL.out hc hp] at cB1
     have HE:Hid (R=.error (8,(k:Int))):=hr.symm
     clear hr hc cB cH HR hg hp hix
     go_wp2_with (first
      |(go_at_call 113;refine ck4 (cH1 _) HX.out.next (fun _ h=>h.box) ?_;clear cH1 c0 c1 c2 c3;intro w2 HX2 c0 c1 c2 c3)
      |(go_at_call 71;refine ck4 (cB1 _) HX2.out.next (fun _ h=>h.box) ?_;clear cB1 c0 c1 c2 c3;intro w3 HX3 c0 c1 c2 c3)
      |(refine stF 5 22 rfl rfl (W.heap.size+1) (8,(k:Int)) rfl rfl ?_ ?_;exact HX3.out.flt))
     have hf:=qay HX3.out bwR (8,(k:Int))
     refine eoF results245 hf _ rfl rfl rfl ⟨?_,hf.2⟩
     rw[HE.out]
     rfl
    ·rw[if_neg hp] at hr
     rw[qa7 HL.out HI.out hc hp] at cH1
     rw[qa6 HL.out HI.out hc hp] at cB1
     have HNX:Hid (InR bs lim (k+1)):=qav HI.out hc hp
     cases hv:qjz c with
     |none =>
      rw[hv] at hr
      have HE:Hid (R=.error (9,(k:Int))):=hr.symm
      have h4:(c.toNat:Int)<48∨(57<(c.toNat:Int)∧(c.toNat:Int)<65)∨(70<(c.toNat:Int)∧(c.toNat:Int)<97)∨102<(c.toNat:Int):=by
       unfold qjz qaG at hv
       split at hv
       ·cases hv
       ·rename_i h1
        split at hv
        ·cases hv
        ·rename_i h2
         split at hv
         ·cases hv
         ·rename_i h3
          have h1':¬(48≤(c.toNat:Int)∧(c.toNat:Int)≤57):=fun h=>h1 (decide_eq_true h)
          omega
      clear hr hc hv cB cH HR hg hp HNX
      rcases h4 with h4|⟨h4,h5⟩|⟨h4,h5⟩|h4
      ·go_wp2_with (first
        |(go_at_call 113;refine ck4 (cH1 _) HX.out.next (fun _ h=>h.box) ?_;clear cH1 c0 c1 c2 c3;intro w2 HX2 c0 c1 c2 c3)
        |(go_at_call 71;refine ck4 (cB1 _) HX2.out.next (fun _ h=>h.box) ?_;clear cB1 c0 c1 c2 c3;intro w3 HX3 c0 c1 c2 c3)
        |(refine stF 5 29 rfl rfl (W.heap.size+1) (9,(k:Int)) rfl rfl ?_ ?_;exact HX3.out.flt))
       have hf:=qay HX3.out bwR (9,(k:Int))
       refine eoF results245 hf _ rfl rfl rfl ⟨?_,hf.2⟩
       rw[HE.out]
       rfl
      ·go_wp2_with (first
        |(go_at_call 113;refine ck4 (cH1 _) HX.out.next (fun _ h=>h.box) ?_;clear cH1 c0 c1 c2 c3;intro w2 HX2 c0 c1 c2 c3)
        |(go_at_call 71;refine ck4 (cB1 _) HX2.out.next (fun _ h=>h.box) ?_;clear cB1 c0 c1 c2 c3;intro w3 HX3 c0 c1 c2 c3)
        |(refine stF 5 29 rfl rfl (W.heap.size+1) (9,(k:Int)) rfl rfl ?_ ?_;exact HX3.out.flt))
       have hf:=qay HX3.out bwR (9,(k:Int))
       refine eoF results245 hf _ rfl rfl rfl ⟨?_,hf.2⟩
       rw[HE.out]
       rfl
      ·go_wp2_with (first
        |(go_at_call 113;refine ck4 (cH1 _) HX.out.next (fun _ h=>h.box) ?_;clear cH1 c0 c1 c2 c3;intro w2 HX2 c0 c1 c2 c3)
        |(go_at_call 71;refine ck4 (cB1 _) HX2.out.next (fun _ h=>h.box) ?_;clear cB1 c0 c1 c2 c3;intro w3 HX3 c0 c1 c2 c3)
        |(refine stF 5 29 rfl rfl (W.heap.size+1) (9,(k:Int)) rfl rfl ?_ ?_;exact HX3.out.flt))
       have hf:=qay HX3.out bwR (9,(k:Int))
       refine eoF results245 hf _ rfl rfl rfl ⟨?_,hf.2⟩
       rw[HE.out]
       rfl
      ·go_wp2_with (first
        |(go_at_call 113;refine ck4 (cH1 _) HX.out.next (fun _ h=>h.box) ?_;clear cH1 c0 c1 c2 c3;intro w2 HX2 c0 c1 c2 c3)
        |(go_at_call 71;refine ck4 (cB1 _) HX2.out.next (fun _ h=>h.box) ?_;clear cB1 c0 c1 c2 c3;intro w3 HX3 c0 c1 c2 c3)
        |(refine stF 5 29 rfl rfl (W.heap.size+1) (9,(k:Int)) rfl rfl ?_ ?_;exact HX3.out.flt))
       have hf:=qay HX3.out bwR (9,(k:Int))
       refine eoF results245 hf _ rfl rfl rfl ⟨?_,hf.2⟩
       rw[HE.out]
       rfl
     |some dn =>
      rw[hv] at hr
      have HN:Hid (qbY bs lim g (k+1) (num*16+dn)=R):=hr
      have hd16:=qf1 hv
      have HMX:Hid (num*16+dn≤65535∧(1≤g→(num*16+dn)*16+15≤65535)∧(2≤g→(num*16+dn)*256+255≤65535)∧(3≤g→(num*16+dn)*4096+4095≤65535)∧(4≤g→num*16+dn=0)):=by
       have h:=hm.out
       have hg4:g+1≤4:=by
        have:=hg.out
        omega
       refine⟨by omega,by omega,by omega,by omega,by omega⟩
      have h3:(48≤(c.toNat:Int)∧(c.toNat:Int)≤57∧(dn:Int)=(c.toNat:Int)-48)∨(97≤(c.toNat:Int)∧(c.toNat:Int)≤102∧(dn:Int)=(c.toNat:Int)-87)∨(65≤(c.toNat:Int)∧(c.toNat:Int)≤70∧(dn:Int)=(c.toNat:Int)-55):=by
       unfold qjz qaG at hv
       split at hv
       ·rename_i h1
        have:=of_decide_eq_true h1
        injection hv with hv
        omega
       ·split at hv
        ·injection hv with hv
         omega
        ·split at hv
         ·injection hv with hv
          omega
         ·cases hv
      clear hr hc hv cB cB1 cH HR hp hm
      rcases h3 with ⟨h4,h5,h6⟩|⟨h4,h5,h6⟩|⟨h4,h5,h6⟩
      ·have H6:Hid _:=h6
       clear h6 hd16
       go_wp2_with (first
        |(go_at_call 113;refine ck4 (cH1 _) HX.out.next (fun _ h=>h.box) ?_;clear cH1 c0 c1 c2 c3;intro w2 HX2 c0 c1 c2 c3))
       go_roundg g
       case measure=>omega
       case rel=>exact⟨k+1,num*16+dn,by go_num,congrArg (Value.int .i64) (by have:=H6.out;omega),⟨by have:=hg.out;omega,by have:=hg.out;omega⟩,HMX,HX2,HN,HNX⟩
      ·have H6:Hid _:=h6
       clear h6 hd16
       go_wp2_with (first
        |(go_at_call 113;refine ck4 (cH1 _) HX.out.next (fun _ h=>h.box) ?_;clear cH1 c0 c1 c2 c3;intro w2 HX2 c0 c1 c2 c3))
       go_roundg g
       case measure=>omega
       case rel=>exact⟨k+1,num*16+dn,by go_num,congrArg (Value.int .i64) (by have:=H6.out;omega),⟨by have:=hg.out;omega,by have:=hg.out;omega⟩,HMX,HX2,HN,HNX⟩
      ·have H6:Hid _:=h6
       clear h6 hd16
       go_wp2_with (first
        |(go_at_call 113;refine ck4 (cH1 _) HX.out.next (fun _ h=>h.box) ?_;clear cH1 c0 c1 c2 c3;intro w2 HX2 c0 c1 c2 c3))
       go_roundg g
       case measure=>omega
       case rel=>exact⟨k+1,num*16+dn,by go_num,congrArg (Value.int .i64) (by have:=H6.out;omega),⟨by have:=hg.out;omega,by have:=hg.out;omega⟩,HMX,HX2,HN,HNX⟩
end
end Go.Proofs.YtllcbnfmihfaaaaGreatDoor
