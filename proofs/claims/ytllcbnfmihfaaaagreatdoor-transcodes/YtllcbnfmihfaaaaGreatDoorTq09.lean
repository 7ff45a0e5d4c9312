import Derived.Test.YtllcbnfmihfaaaaGreatDoorTq06
set_option maxRecDepth 100000
set_option maxHeartbeats 8000000
namespace Go.Proofs.YtllcbnfmihfaaaaGreatDoor
open Go.Proofs.Tryz
variable {P:Program}{ops:Array Oper}{Q:Exit→Act→World→Prop}{md:Region.Mode}{S:World→Prop}{N fuel g i:Nat}{o oi:Oper}{listed:Array Bool}{a:Act}{V V' W w:World}{fn:Func}{p u:Tmp}{A args:Array Value}{ev:Operand→Value}{bs:List UInt8}{d fm l:Int}{fr:Nat×Nat}{f:FuncId}{r:Ending}{F:Int×Int}
section
open Go.RowKit
theorem qzf {v:Value}(dst:Option Tmp)(hi:ops[i]? = some oi)(hs:Region.noSelect ops=true)(hf:Region.free md ops listed i=true)(hr:(Region.ready md ops listed).contains i=true)(hQ:∀c a w,Q (.panic c) (a.put dst v) w→Q (.panic c) a w)(hd:oi.dst=dst)(hy:YieldsIf P ops S oi v a)(hS:S w)(h:wpAnyH P md ops Q S fuel (listed.setIfInBounds i true) (a.put dst v) w):wpAnyH P md ops Q S (fuel+1) listed a w:=by
 subst hd;exact wpAnyH_take hi hs hf hr hQ hy hS h
theorem q2g {ty:TypeId}(h:fn.results=#[.tmp u,.cell p ty])(tmps:Array Value)(w:World)(g:Nat)(t:TypeId)(cs:Array Value)(fr:Nat×Nat)(d:TypeDesc)(hp:tmps.getD p undef=.pointer (some ⟨g,0,none⟩))(hg:w.heap[g]? = some (.cells cs t fr))(hu:P.underlying ty=some d)(hd:(match d with|.struct _|.array _ _=>true|_=>false)=true)(hi:(P.info? ty).map (·.size)=some cs.size)(v:Value)(hv:tmps.getD u undef=v):(results fn tmps).run P w=.ok (.tuple #[v,.agg cs]) w:=by
 have e:(results fn tmps).run P w=((asAddr (tmps.getD p undef)).run P w).andThen fun a w₁=>((loadVar ty a).run P w₁).andThen fun v w₂=>.ok (.tuple #[tmps.getD u undef,v]) w₂:=by
  simp only[results,h];simp[Sem.run_bind,Result.andThen]
 subst hv;rw[e,hp];simp only[asAddr,Sem.run_pure,Result.andThen_ok,run_loadVar_row w g t ty cs fr d hg hu hd hi]
def inA (bs:List UInt8)(fm d l:Int):Array Value:=#[.string ⟨bs.toArray⟩,.int .i64 fm,.int .i64 d,.int .i64 l]
def qqp (x:Int×Int):Array Value:=#[.int .i64 x.1,.int .i64 x.2]
theorem qy7 (x:Int×Int):(qqp x).all (·.oneCell')=true:=by simp[qqp,Value.oneCell']
structure RIn (W:World)(A:Array Value)(N:Nat)(V:World):Prop where
 box:V.heap[W.heap.size]? = some (.cells A 143)
 flt:V.heap[N]? = some (.cells (qqp (0,0)) 95)
 below:Below W.heap.size W V
 lt:W.heap.size<N
theorem RIn.next (h:RIn W A N V)(hb:Below V.heap.size V V'):RIn W A N V' :=
 ⟨(hb.block _ (ltA h.box)).trans h.box,(hb.block _ (ltA h.flt)).trans h.flt,h.below.trans (hb.mono h.below.size),h.lt⟩
theorem RIn.drew (h:RIn W A N V):RIn W A N V.drew:=⟨h.box,h.flt,h.below.drew,h.lt⟩
theorem qzj (W:World)(A:Array Value):RIn W A (W.heap.size+1) ((W.alloc (.cells A 143)).alloc (.cells (qqp (0,0)) 95)) :=
 ⟨(Below.heap_alloc _ _ _ (by simp)).trans (qac _ _),by have:=qac (W.alloc (.cells A 143)) (.cells (qqp (0,0)) 95);simpa using this,(bwA).alloc (by simp) _,by omega⟩
theorem q6V (ty:TypeId)(x:Operand)(ho:o.op=.load ty x)(g:Nat)(hx:ev x=.pointer (some ⟨g,0,none⟩))(t:TypeId)(cs:Array Value)(fr:Nat×Nat)(d:TypeDesc)(hg:W.heap[g]? = some (.cells cs t fr))(hu:P.underlying ty=some d)(hd:(match d with|.struct _|.array _ _=>true|_=>false)=true)(hi:(P.info? ty).map (·.size)=some cs.size):(execOp ev o).run P W=.ok (.value (.agg cs)) W:=by
 unfold execOp;simp only[ho,hx,Instr.loadAt,Instr.sureAddr,Sem.run_bind,Sem.run_pure,Result.andThen_ok,run_loadVar_row W g t ty cs fr d hg hu hd hi]
theorem q3x (x:Int)(h : -9223372036854775808≤x∧x≤9223372036854775807):IntKind.i64.wrap x=x:=(IntKind.wrap_i64 x).trans (by omega)
theorem q0D:(prog.info? 143).map (·.size)=some (inA bs fm d l).size:=by show _=some 4;kernel_rfl
def q3q (r:Except (Int×Int) (Unit×Nat)):Value:=match r with
 |.ok (_,q)=>.tuple #[.int .i64 q,.agg (qqp (0,0))]
 |.error f=>.tuple #[.int .i64 0,.agg (qqp f)]
theorem qxK (h:RIn W A N V)(hb:Below V.heap.size V V')(x:Int×Int):(V'.setRow N (qqp x)).heap[N]? = some (.cells (qqp x) 95)∧Below W.heap.size W (V'.setRow N (qqp x)) :=
 ⟨setRow_heap _ _ _ _ _ _ (h.next hb).flt,qah (h.next hb).below (Nat.le_of_lt h.lt) _⟩
theorem qyj (x:Int×Int):(prog.info? 95).map (·.size)=some (qqp x).size:=q38
theorem qyf {t:TypeId}(h:V.heap[g]? = some (.cells (inA bs fm d l) t fr)):V.cell? ⟨g,0,none⟩=(#[.string ⟨bs.toArray⟩,.int .i64 fm,.int .i64 d,.int .i64 l]:Array Value)[0]?∧V.cell? ⟨g,1,none⟩=(#[.string ⟨bs.toArray⟩,.int .i64 fm,.int .i64 d,.int .i64 l]:Array Value)[1]?∧V.cell? ⟨g,2,none⟩=(#[.string ⟨bs.toArray⟩,.int .i64 fm,.int .i64 d,.int .i64 l]:Array Value)[2]?∧V.cell? ⟨g,3,none⟩=(#[.string ⟨bs.toArray⟩,.int .i64 fm,.int .i64 d,.int .i64 l]:Array Value)[3]? :=
 ⟨qab h 0,qab h 1,qab h 2,qab h 3⟩
theorem ck {Q:Ending→World→Prop}(c:Calls P f args V fun e W'=>e=r∧Below V.heap.size V W')(hn:∀{V':World},Below V.heap.size V V'→S V')(k:∀w,Hid (S w)→Q r w):Calls P f args V Q :=
 c.mono fun _ _ h=>h.1▸k _ (hn h.2)
theorem ckB {Q:Ending→World→Prop}(c:Calls P f args V fun e W'=>e=r∧Below V.heap.size V W')(hn:∀{V':World},Below V.heap.size V V'→S V')(k:∀w,Below V.heap.size V w→Hid (S w)→Q r w):Calls P f args V Q :=
 c.mono fun _ _ h=>h.1▸k _ h.2 (hn h.2)
theorem ck4 {Q:Ending→World→Prop}{t:TypeId}(c:Calls P f args V fun e W'=>e=r∧Below V.heap.size V W')(hn:∀{V':World},Below V.heap.size V V'→S V')(hb:∀w,S w→w.heap[g]? = some (.cells (inA bs fm d l) t fr))(k:∀w,Hid (S w)→w.cell? ⟨g,0,none⟩=(#[.string ⟨bs.toArray⟩,.int .i64 fm,.int .i64 d,.int .i64 l]:Array Value)[0]?→w.cell? ⟨g,1,none⟩=(#[.string ⟨bs.toArray⟩,.int .i64 fm,.int .i64 d,.int .i64 l]:Array Value)[1]?→w.cell? ⟨g,2,none⟩=(#[.string ⟨bs.toArray⟩,.int .i64 fm,.int .i64 d,.int .i64 l]:Array Value)[2]?→w.cell? ⟨g,3,none⟩=(#[.string ⟨bs.toArray⟩,.int .i64 fm,.int .i64 d,.int .i64 l]:Array Value)[3]?→Q r w):Calls P f args V Q :=
 ck c hn fun w h=>let z:=qyf (hb w h);k w h z.1 z.2.1 z.2.2.1 z.2.2.2
theorem qyz {b:Bool}(fm d:Int)(h:qyb bs l i=b)(V:World):Calls prog 113 #[.agg #[.string ⟨bs.toArray⟩,.int .i64 fm,.int .i64 d,.int .i64 l],.int .i64 i] V fun e W'=>e=.returned (.bool b)∧Below V.heap.size V W':=h▸qzK V bs fm d l i
theorem q11 {en:Int}{x:Int×Int}(fm d:Int)(h:qr0 bs l i en=x)(V:World):Calls prog 71 #[.agg #[.string ⟨bs.toArray⟩,.int .i64 fm,.int .i64 d,.int .i64 l],.int .i64 i,.int .i64 en] V fun e W'=>e=.returned (.agg (qqp x))∧Below V.heap.size V W':=h▸qyv V bs fm d l i en
theorem qzv (bs:List UInt8)(fm d l:Int)(V:World)(k:Nat):Calls prog 113 #[.agg #[.string ⟨bs.toArray⟩,.int .i64 fm,.int .i64 d,.int .i64 l],.int .i64 k] V fun e W'=>e=.returned (.bool (qyb bs l k))∧Below V.heap.size V W':=qzK V bs fm d l k
theorem qzy (bs:List UInt8)(fm d l:Int)(V:World)(k:Nat)(en:Int):Calls prog 71 #[.agg #[.string ⟨bs.toArray⟩,.int .i64 fm,.int .i64 d,.int .i64 l],.int .i64 k,.int .i64 en] V fun e W'=>e=.returned (.agg (qqp (qr0 bs l k en)))∧Below V.heap.size V W':=qyv V bs fm d l k en
theorem stF {rest:List Oper}(x y:Nat)(hgd:o.guard=none)(ho:o.op=.store 95 (.tmp x) (.tmp y))(g:Nat)(F:Int×Int)(hx:a.eval (.tmp x)=.pointer (some ⟨g,0,none⟩))(hy:a.eval (.tmp y)=.agg (qqp F))(hg:w.heap[g]? = some (.cells (qqp (0,0)) 95))(h:wpList prog ops Q rest (a.put o.dst undef) (w.setRow g (qqp F))):wpList prog ops Q (o::rest) a w :=
 wpList_store_row hgd _ _ _ ho g _ hx hy _ _ hg (qyj _) rfl (qy7 _) h
theorem tk (i dst:Nat)(v:Value)(hi:ops[i]? = some oi)(hk:(Region.noSelect ops&&Region.free md ops listed i&&(Region.ready md ops listed).contains i&&oi.dst==some dst&&Region.wanted oi (yielded ops a.tmps))=true)(hQ:∀c a w,Q (.panic c) (a.put (some dst) v) w→Q (.panic c) a w)(hy:∀Z,S Z→(execOp a.eval oi).run P Z=.ok (.value v) Z)(hS:S w)(h:wpAnyH P md ops Q S fuel (listed.setIfInBounds i true) (a.put (some dst) v) w):wpAnyH P md ops Q S (fuel+1) listed a w:=by
 simp only[Bool.and_eq_true] at hk;exact qzf (some dst) hi hk.1.1.1.1 hk.1.1.1.2 hk.1.1.2 hQ (by simpa using hk.1.2) (.inl ⟨hk.2,hy⟩) hS h
theorem tkk (i dst:Nat)(v:Value)(hk:(Region.noSelect ops&&Region.free md ops listed i&&(Region.ready md ops listed).contains i,ops[i]?.map fun o=>(o.dst,Region.wanted o (yielded ops a.tmps),fun Z=>(execOp a.eval o).run P Z))=(true,some (some dst,true,fun Z=>.ok (.value v) Z)))(hQ:∀c a w,Q (.panic c) (a.put (some dst) v) w→Q (.panic c) a w)(hS:S w)(h:wpAnyH P md ops Q S fuel (listed.setIfInBounds i true) (a.put (some dst) v) w):wpAnyH P md ops Q S (fuel+1) listed a w:=by
 obtain⟨h1,h2⟩:=Prod.mk.inj hk;obtain⟨o,ho,h5⟩:=Option.map_eq_some_iff.1 h2;obtain⟨h5,h6⟩:=Prod.mk.inj h5;obtain⟨h6,h7⟩:=Prod.mk.inj h6;simp only[Bool.and_eq_true] at h1;exact qzf (some dst) ho h1.1.1 h1.1.2 h1.2 hQ h5 (.inl ⟨h6,fun Z _=>congrFun h7 Z⟩) hS h
theorem tkx (i dst:Nat)(hi:ops[i]? = some oi)(hk:(Region.noSelect ops&&Region.free md ops listed i&&(Region.ready md ops listed).contains i&&oi.dst==some dst && !Region.wanted oi (yielded ops a.tmps))=true)(hQ:∀c a w,Q (.panic c) (a.put (some dst) undef) w→Q (.panic c) a w)(hS:S w)(h:wpAnyH P md ops Q S fuel (listed.setIfInBounds i true) (a.put (some dst) undef) w):wpAnyH P md ops Q S (fuel+1) listed a w:=by
 simp only[Bool.and_eq_true,Bool.not_eq_true'] at hk;exact qzf (some dst) hi hk.1.1.1.1 hk.1.1.1.2 hk.1.1.2 hQ (by simpa using hk.1.2) (.inr ⟨hk.2,rfl⟩) hS h
theorem yF (x:Nat)(hg:W.heap[g]? = some (.cells (qqp F) 95))(ho:o.op=.load 95 (.tmp x))(hx:ev (.tmp x)=.pointer (some ⟨g,0,none⟩)):(execOp ev o).run prog W=.ok (.value (.agg (qqp F))) W :=
 q6V _ _ ho g hx _ _ _ _ hg underlying95 rfl (qyj _)
theorem yI (x:Nat)(hg:W.heap[g]? = some (.cells (inA bs fm d l) 143))(ho:o.op=.load 143 (.tmp x))(hx:ev (.tmp x)=.pointer (some ⟨g,0,none⟩)):(execOp ev o).run prog W=.ok (.value (.agg #[.string ⟨bs.toArray⟩,.int .i64 fm,.int .i64 d,.int .i64 l])) W :=
 q6V _ _ ho g hx _ _ _ _ hg underlying143 rfl q0D
theorem q7h {tmps:Array Value}(h:fn.results=#[.tmp u,.cell p 95])(hg:w.heap[g]? = some (.cells (qqp F) 95))(v:Value)(hp:tmps.getD p undef=.pointer (some ⟨g,0,none⟩))(hv:tmps.getD u undef=v):(results fn tmps).run prog w=.ok (.tuple #[v,.agg (qqp F)]) w :=
 q2g h _ _ g _ _ _ _ hp hg underlying95 rfl (qyj _) v hv
theorem eoF {A:Act}{R:Ending→World→Prop}{B:Prop}(h:fn.results=#[.tmp u,.cell p 95])(hf:w.heap[g]? = some (.cells (qqp F) 95)∧B)(v:Value)(hp:A.tmps.getD p undef=.pointer (some ⟨g,0,none⟩))(hv:A.tmps.getD u undef=v)(hd:A.defers=[])(k:R (.returned (.tuple #[v,.agg (qqp F)])) w):bodyPost prog fn R .ret A w:=bodyPost_ret (q7h h hf.1 v hp hv) hd k
theorem q00 (W:World)(bs:List UInt8)(fm d l:Int):Hid (RIn W (inA bs fm d l) (W.heap.size+1) ((W.alloc (.cells #[.string ⟨bs.toArray⟩,.int .i64 fm,.int .i64 d,.int .i64 l] 143)).alloc (.cells #[.int .i64 0,.int .i64 0] 95))):=qzj W _
theorem q49 {c:UInt8}{v:Nat}(hc:bs[i]? = some c)(hv:c.toNat=v)(V:World):(Instr.index 9 (.string ⟨bs.toArray⟩) (.int .i64 (i:Int))).run prog V=.ok (.int .u8 v) V:=hv▸qxH bs i c hc V
theorem qzD (W:World)(bs:List UInt8)(fm d l lim:Int)(i:Nat)(w:List UInt8)(hw:w.length≤100)(hl:Lm bs l lim)(hi:InR bs lim i)(hb:bs.length≤200000000):Calls prog 170 #[.agg (inA bs fm d l),.int .i64 i,.string ⟨w.toArray⟩] W fun e W'=>e=.returned (q3q (qaT bs lim w i))∧Below W.heap.size W W':=by
 have hsz:=qym w;obtain⟨R,HR⟩:∃R,Hid (qaT bs lim w i=R):=⟨_,show _=_ from rfl⟩
 rw[HR.out];have hil:=hi.1;have HL:=qaa hl;have HI:=qaa hi;have cH:=qzv bs fm d l;have cB:∀(V:World) (k:Nat) (en:Int),Calls prog 71 #[.agg #[.string ⟨bs.toArray⟩,.int .i64 fm,.int .i64 d,.int .i64 l],.int .i64 k,.int .i64 en] V fun e W'=>e=.returned (q51 (qr0 bs l k en))∧Below V.heap.size V W':=fun V k en=>qyv V bs fm d l k en;clear hl hi;unfold inA;go_enter func170,ntmps170;go_wp2
 go_loopg [8] w.length (fun g z wr=>∃k:Nat,z=.int .i64 k∧Hid (k+g=w.length)∧Hid (RIn W (inA bs fm d l) (W.heap.size+1) wr)∧Hid (qaT bs lim (w.drop k) (i+k)=R)∧Hid (InR bs lim (i+k)))
 case atStart=>exact⟨0,rfl,by show _=_;omega,qzj _ _,HR,HI⟩
 case round =>
  clear HR HI;obtain⟨k,rfl,hg,HX,HR,HI⟩:=hrel;have hkl:=HI.out.1;obtain⟨c0,c1,c2,c3⟩:=qyf HX.out.box;have cH1:=fun V=>cH V (i+k);have e1:((i+k:Nat):Int)=(i:Int)+(k:Int):=by omega
  rw[e1] at cH1
  cases gk with
  |zero =>
   have HE:Hid (R=.ok ((),i+w.length)):=by
    show _=_;have h1:=hg.out;rw[←HR.out,List.drop_eq_nil_of_le (by omega),qaT,show k=w.length by omega]
   have hlt:¬(k:Int)<(w.length:Int):=by have:=hg.out;omega
   have hf:=qxK HX.out bwR (0,0);clear HR cH cH1 cB
   go_wp2_with (first
    |(refine wpList_store_row rfl 95 _ _ rfl (W.heap.size+1) (qqp (0,0)) rfl rfl 95 (qqp (0,0)) HX.out.flt (qyj _) rfl (qy7 _) ?_))
   refine eoF results170 hf _ rfl rfl rfl ⟨?_,hf.2⟩;rw[HE.out];simp[q3q]
  |succ g =>
   have hkw:k<w.length:=by have:=hg.out;omega
   have hlt:(k:Int)<(w.length:Int):=by omega
   obtain⟨x,hx⟩:∃x,x=w[k]:=⟨_,rfl⟩
   have hwx:w[k]? = some x:=by rw[hx];exact List.getElem?_eq_getElem hkw
   have hiw:=fun V=>qxH w k x hwx V;have hr:=HR.out;rw[List.drop_eq_getElem_cons hkw,←hx,qaT] at hr;clear HR hx cH;have hS:(fun V:World=>V.heap[W.heap.size]? = some (.cells (inA bs fm d l) 143)) {wr with drawn:=wr.drawn+1}:=HX.out.box
   cases hc:bs[i+k]? with
   |none =>
    rw[hc] at hr;simp only[] at hr;rw[qxS hc] at cH1;have cB1:=fun V=>cB V (i+k) 9;rw[qxY HI.out.1 hc,e1] at cB1;have HE:Hid (R=.error (9,(i:Int)+(k:Int))):=by show _=_;rw[←hr,e1]
    clear hr hc cB e1 hiw hwx;go_wp2;refine wp_region_held (S:=fun V=>V.heap[W.heap.size]? = some (.cells (inA bs fm d l) 143)) (by kernel_rfl) ?_;refine tk 0 15 (.agg (inA bs fm d l)) rfl (by kernel_rfl) iQ3 (fun Z hZ=>yI 3 hZ rfl rfl) hS ?_;refine tkk 1 16 (.int .i64 i) (by kernel_rfl) iQ3 hS ?_;refine tkk 2 17 (.int .i64 k) (by kernel_rfl) iQ3 hS ?_;refine tk 3 18 (.int .i64 ((i:Int)+(k:Int))) rfl (by kernel_rfl) iQ3 (fun Z hZ => ?y3) hS ?_
    case y3=>(go_simp;exact q3x _ (by omega))
    refine rdH 4 rfl (by kernel_rfl) (fun K hK => ?_);go_simp;refine(cH1 _).mono ?_;rintro e w2 ⟨rfl,hB2⟩;simp only[];have hS2:=(hB2.block _ (ltA hS)).trans hS;refine hK.out _ _ hS2 (fun _ => ?_);clear hK;refine tkk 5 20 (.bool true) (by kernel_rfl) iQ3 hS2 ?_;refine tkk 6 21 (.bool true) (by kernel_rfl) iQ3 hS2 ?_;refine tkx 7 22 rfl (by kernel_rfl) iQ3 hS2 ?_;refine tkx 8 23 rfl (by kernel_rfl) iQ3 hS2 ?_;refine tkx 9 24 rfl (by kernel_rfl) iQ3 hS2 ?_;refine tkx 10 25 rfl (by kernel_rfl) iQ3 hS2 ?_;refine tkx 11 26 rfl (by kernel_rfl) iQ3 hS2 ?_;refine tkx 12 27 rfl (by kernel_rfl) iQ3 hS2 ?_;refine tkx 13 28 rfl (by kernel_rfl) iQ3 hS2 ?_;refine tkx 14 29 rfl (by kernel_rfl) iQ3 hS2 ?_;refine tkx 15 30 rfl (by kernel_rfl) iQ3 hS2 ?_;refine tkx 16 31 rfl (by kernel_rfl) iQ3 hS2 ?_;refine tkk 17 32 (.bool true) (by kernel_rfl) iQ3 hS2 ?_;refine wpAnyH_done (by kernel_rfl) ?_ _;go_simp;clear hS cH1 hg hkw hlt HL c0 c1 c2 c3
    go_wp2_with (first
     |(go_at_call 71;refine(cB1 _).mono ?_;clear cB1;rintro e w3 ⟨rfl,hB3⟩)
     |(refine wpList_store_row rfl 95 _ _ rfl (W.heap.size+1) (qqp (9,(i:Int)+(k:Int))) rfl rfl 95 (qqp (0,0)) ((HX.out.drew.next hB2).next hB3).flt (qyj _) rfl (qy7 _) ?_)
     |(refine wpList_load_row rfl 143 _ rfl W.heap.size rfl _ _ _ _ hS2 underlying143 rfl q0D ?_))
    have hf:=qxK (HX.out.drew.next hB2) hB3 (9,(i:Int)+(k:Int));refine eoF results170 hf _ rfl rfl rfl ⟨?_,hf.2⟩;rw[HE.out];rfl
   |some c =>
    rw[hc] at hr;simp only[] at hr;have hix:=fun V=>qxH bs (i+k) c hc V;rw[e1] at hix;by_cases hp:((i+k:Nat):Int)=lim
    ·rw[if_pos hp] at hr;rw[qyg HL.out hc hp] at cH1;have cB1:=fun V=>cB V (i+k) 9;rw[qxW HL.out hc hp,e1] at cB1;have HE:Hid (R=.error (8,(i:Int)+(k:Int))):=by show _=_;rw[←hr,e1]
     clear hr hc hp cB e1 hiw hwx hix;go_wp2;refine wp_region_held (S:=fun V=>V.heap[W.heap.size]? = some (.cells (inA bs fm d l) 143)) (by kernel_rfl) ?_;refine tk 0 15 (.agg (inA bs fm d l)) rfl (by kernel_rfl) iQ3 (fun Z hZ=>yI 3 hZ rfl rfl) hS ?_;refine tkk 1 16 (.int .i64 i) (by kernel_rfl) iQ3 hS ?_;refine tkk 2 17 (.int .i64 k) (by kernel_rfl) iQ3 hS ?_;refine tk 3 18 (.int .i64 ((i:Int)+(k:Int))) rfl (by kernel_rfl) iQ3 (fun Z hZ => ?y3) hS ?_
     case y3=>(go_simp;exact q3x _ (by omega))
     refine rdH 4 rfl (by kernel_rfl) (fun K hK => ?_);go_simp;refine(cH1 _).mono ?_;rintro e w2 ⟨rfl,hB2⟩;simp only[];have hS2:=(hB2.block _ (ltA hS)).trans hS;refine hK.out _ _ hS2 (fun _ => ?_);clear hK;refine tkk 5 20 (.bool true) (by kernel_rfl) iQ3 hS2 ?_;refine tkk 6 21 (.bool true) (by kernel_rfl) iQ3 hS2 ?_;refine tkx 7 22 rfl (by kernel_rfl) iQ3 hS2 ?_;refine tkx 8 23 rfl (by kernel_rfl) iQ3 hS2 ?_;refine tkx 9 24 rfl (by kernel_rfl) iQ3 hS2 ?_;refine tkx 10 25 rfl (by kernel_rfl) iQ3 hS2 ?_;refine tkx 11 26 rfl (by kernel_rfl) iQ3 hS2 ?_;refine tkx 12 27 rfl (by kernel_rfl) iQ3 hS2 ?_;refine tkx 13 28 rfl (by kernel_rfl) iQ3 hS2 ?_;refine tkx 14 29 rfl (by kernel_rfl) iQ3 hS2 ?_;refine tkx 15 30 rfl (by kernel_rfl) iQ3 hS2 ?_;refine tkx 16 31 rfl (by kernel_rfl) iQ3 hS2 ?_;refine tkk 17 32 (.bool true) (by kernel_rfl) iQ3 hS2 ?_;refine wpAnyH_done (by kernel_rfl) ?_ _;go_simp;clear hS cH1 hg hkw hlt HL c0 c1 c2 c3
     go_wp2_with (first
      |(go_at_call 71;refine(cB1 _).mono ?_;clear cB1;rintro e w3 ⟨rfl,hB3⟩)
      |(refine wpList_store_row rfl 95 _ _ rfl (W.heap.size+1) (qqp (8,(i:Int)+(k:Int))) rfl rfl 95 (qqp (0,0)) ((HX.out.drew.next hB2).next hB3).flt (qyj _) rfl (qy7 _) ?_)
      |(refine wpList_load_row rfl 143 _ rfl W.heap.size rfl _ _ _ _ hS2 underlying143 rfl q0D ?_))
     have hf:=qxK (HX.out.drew.next hB2) hB3 (8,(i:Int)+(k:Int));refine eoF results170 hf _ rfl rfl rfl ⟨?_,hf.2⟩;rw[HE.out];rfl
    rw[if_neg hp] at hr;rw[qxO HL.out HI.out hc hp] at cH1;have cB1:=fun V=>cB V (i+k) 9;rw[qxT HL.out HI.out hc hp,e1] at cB1;have HN:Hid (InR bs lim (i+(k+1))):=qxJ HI.out hc hp;have hcl:=ltL hc;by_cases hcx:c=x
    ·rw[if_pos hcx] at hr;have hne:((c.toNat:Int)==(x.toNat:Int))=true:=by rw[hcx];simp
     have HE:Hid (qaT bs lim (w.drop (k+1)) (i+(k+1))=R):=hr;have HG:Hid ((k+1)+g=w.length):=by show _=_;have:=hg.out;omega
     clear hr hc hp cB cB1 e1 hwx hcx;go_wp2;refine wp_region_held (S:=fun V=>V.heap[W.heap.size]? = some (.cells (inA bs fm d l) 143)) (by kernel_rfl) ?_;refine tk 0 15 (.agg (inA bs fm d l)) rfl (by kernel_rfl) iQ3 (fun Z hZ=>yI 3 hZ rfl rfl) hS ?_;refine tkk 1 16 (.int .i64 i) (by kernel_rfl) iQ3 hS ?_;refine tkk 2 17 (.int .i64 k) (by kernel_rfl) iQ3 hS ?_;refine tk 3 18 (.int .i64 ((i:Int)+(k:Int))) rfl (by kernel_rfl) iQ3 (fun Z hZ => ?y3) hS ?_
     case y3=>(go_simp;exact q3x _ (by omega))
     refine rdH 4 rfl (by kernel_rfl) (fun K hK => ?_);go_simp;refine(cH1 _).mono ?_;rintro e w2 ⟨rfl,hB2⟩;simp only[];have hS2:=(hB2.block _ (ltA hS)).trans hS;refine hK.out _ _ hS2 (fun _ => ?_);clear hK;refine tkk 5 20 (.bool false) (by kernel_rfl) iQ3 hS2 ?_;refine tkk 6 21 (.bool false) (by kernel_rfl) iQ3 hS2 ?_;refine tkk 7 22 (.pointer (some ⟨W.heap.size,0,none⟩)) (by kernel_rfl) iQ3 hS2 ?_;refine tk 8 23 (.string ⟨bs.toArray⟩) rfl (by kernel_rfl) iQ3 (fun Z hZ => ?y8) hS2 ?_
     case y8=>(have h2:=qab hZ 0;unfold inA at h2;go_simp)
     refine tkk 9 24 (.int .i64 i) (by kernel_rfl) iQ3 hS2 ?_;refine tkk 10 25 (.int .i64 k) (by kernel_rfl) iQ3 hS2 ?_;refine tk 11 26 (.int .i64 ((i:Int)+(k:Int))) rfl (by kernel_rfl) iQ3 (fun Z hZ => ?y11) hS2 ?_
     case y11=>(go_simp;exact q3x _ (by omega))
     refine tk 12 27 (.int .u8 c.toNat) rfl (by kernel_rfl) iQ3 (fun Z hZ => ?y12) hS2 ?_
     case y12=>(go_simp)
     refine tkk 13 28 (.string ⟨w.toArray⟩) (by kernel_rfl) iQ3 hS2 ?_;refine tkk 14 29 (.int .i64 k) (by kernel_rfl) iQ3 hS2 ?_;refine tk 15 30 (.int .u8 x.toNat) rfl (by kernel_rfl) iQ3 (fun Z hZ => ?y15) hS2 ?_
     case y15=>(go_simp)
     refine tk 16 31 (.bool (false)) rfl (by kernel_rfl) iQ3 (fun Z hZ => ?y16) hS2 ?_
     case y16=>(go_simp;simpa using hne)
     refine tkk 17 32 (.bool (false)) (by kernel_rfl) iQ3 hS2 ?_;refine wpAnyH_done (by kernel_rfl) ?_ _;go_simp;clear hS cH1 hg hlt HL c0 c1 c2 c3 hix hiw hne;go_wp2;go_roundg g
     case measure=>omega
     case rel=>exact⟨k+1,by go_num,HG,HX.out.drew.next hB2,HE,HN⟩
    rw[if_neg hcx] at hr;have hne:((c.toNat:Int)==(x.toNat:Int))=false:=by
     have:¬c.toNat=x.toNat:=fun h=>hcx (UInt8.toNat_inj.1 h);simp;omega
    have HE:Hid (R=.error (9,(i:Int)+(k:Int))):=by show _=_;rw[←hr];simp
    clear hr hc hp cB e1 hwx hcx HN;go_wp2;refine wp_region_held (S:=fun V=>V.heap[W.heap.size]? = some (.cells (inA bs fm d l) 143)) (by kernel_rfl) ?_;refine tk 0 15 (.agg (inA bs fm d l)) rfl (by kernel_rfl) iQ3 (fun Z hZ=>yI 3 hZ rfl rfl) hS ?_;refine tkk 1 16 (.int .i64 i) (by kernel_rfl) iQ3 hS ?_;refine tkk 2 17 (.int .i64 k) (by kernel_rfl) iQ3 hS ?_;refine tk 3 18 (.int .i64 ((i:Int)+(k:Int))) rfl (by kernel_rfl) iQ3 (fun Z hZ => ?y3) hS ?_
    case y3=>(go_simp;exact q3x _ (by omega))
    refine rdH 4 rfl (by kernel_rfl) (fun K hK => ?_);go_simp;refine(cH1 _).mono ?_;rintro e w2 ⟨rfl,hB2⟩;simp only[];have hS2:=(hB2.block _ (ltA hS)).trans hS;refine hK.out _ _ hS2 (fun _ => ?_);clear hK;refine tkk 5 20 (.bool false) (by kernel_rfl) iQ3 hS2 ?_;refine tkk 6 21 (.bool false) (by kernel_rfl) iQ3 hS2 ?_;refine tkk 7 22 (.pointer (some ⟨W.heap.size,0,none⟩)) (by kernel_rfl) iQ3 hS2 ?_;refine tk 8 23 (.string ⟨bs.toArray⟩) rfl (by kernel_rfl) iQ3 (fun Z hZ => ?y8) hS2 ?_
    case y8=>(have h2:=qab hZ 0;unfold inA at h2;go_simp)
    refine tkk 9 24 (.int .i64 i) (by kernel_rfl) iQ3 hS2 ?_;refine tkk 10 25 (.int .i64 k) (by kernel_rfl) iQ3 hS2 ?_;refine tk 11 26 (.int .i64 ((i:Int)+(k:Int))) rfl (by kernel_rfl) iQ3 (fun Z hZ => ?y11) hS2 ?_
    case y11=>(go_simp;exact q3x _ (by omega))
    refine tk 12 27 (.int .u8 c.toNat) rfl (by kernel_rfl) iQ3 (fun Z hZ => ?y12) hS2 ?_
    case y12=>(go_simp)
    refine tkk 13 28 (.string ⟨w.toArray⟩) (by kernel_rfl) iQ3 hS2 ?_;refine tkk 14 29 (.int .i64 k) (by kernel_rfl) iQ3 hS2 ?_;refine tk 15 30 (.int .u8 x.toNat) rfl (by kernel_rfl) iQ3 (fun Z hZ => ?y15) hS2 ?_
    case y15=>(go_simp)
    refine tk 16 31 (.bool (true)) rfl (by kernel_rfl) iQ3 (fun Z hZ => ?y16) hS2 ?_
    case y16=>(go_simp;simpa using hne)
    refine tkk 17 32 (.bool (true)) (by kernel_rfl) iQ3 hS2 ?_;refine wpAnyH_done (by kernel_rfl) ?_ _;go_simp;clear hix hiw hne;clear hS cH1 hg hkw hlt HL c0 c1 c2 c3
    go_wp2_with (first
     |(go_at_call 71;refine(cB1 _).mono ?_;clear cB1;rintro e w3 ⟨rfl,hB3⟩)
     |(refine wpList_store_row rfl 95 _ _ rfl (W.heap.size+1) (qqp (9,(i:Int)+(k:Int))) rfl rfl 95 (qqp (0,0)) ((HX.out.drew.next hB2).next hB3).flt (qyj _) rfl (qy7 _) ?_)
     |(refine wpList_load_row rfl 143 _ rfl W.heap.size rfl _ _ _ _ hS2 underlying143 rfl q0D ?_))
    have hf:=qxK (HX.out.drew.next hB2) hB3 (9,(i:Int)+(k:Int));refine eoF results170 hf _ rfl rfl rfl ⟨?_,hf.2⟩;rw[HE.out];rfl
end
end Go.Proofs.YtllcbnfmihfaaaaGreatDoor
