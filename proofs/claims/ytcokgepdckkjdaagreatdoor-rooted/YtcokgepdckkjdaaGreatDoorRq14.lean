import Derived.Test.YtcokgepdckkjdaaGreatDoorRq08
import Derived.Test.YtcokgepdckkjdaaGreatDoorRq01
set_option maxRecDepth 100000
set_option maxHeartbeats 8000000
namespace Go.Proofs.YtcokgepdckkjdaaGreatDoor
open Go.Proofs.Tryz
variable {P:Program}{ops:Array Oper}{Q:Exit->Act->World->Prop}{md:Region.Mode}{S:World->Prop}{N fuel g g2 i:Nat}{o oi:Oper}{ks vs:Value}{listed:Array Bool}{a:Act}{V V' W w:World}{fn:Func}{p q u:Tmp}{A args tmps:Array Value}{ev:Operand->Value}{bs:List UInt8}{d fm k l n:Int}{fr:Nat×Nat}{f:FuncId}{r:Ending}{F:Int×Int}{R:Ending->World->Prop}{s:ByteArray}
section
open Go.RowKit
theorem q21 {v:Value}(b:Option Tmp)(hi:ops[i]? = some oi)(k:Region.noSelect ops=true)(g:Region.free md ops listed i=true)(j:(Region.ready md ops listed).contains i=true)(d:∀c a w,Q (.panic c) (a.put b v) w->Q (.panic c) a w)(f:oi.dst=b)(l:YieldsIf P ops S oi v a)(e:S w)(h:wpAnyH P md ops Q S fuel (listed.setIfInBounds i true) (a.put b v) w):wpAnyH P md ops Q S (fuel+1) listed a w:=by
 subst f;exact wpAnyH_take hi k g j d l e h
theorem q0b {ty:TypeId}(h:fn.results=#[.tmp u,.cell p ty])(b:Array Value)(w:World)(g:Nat)(t:TypeId)(cs:Array Value)(c:Nat×Nat)(d:TypeDesc)(j:b.getD p undef=.pointer (some ⟨g,0,none⟩))(i:w.heap[g]? = some (.cells cs t c))(k:P.underlying ty=some d)(f:(match d with|.struct _|.array _ _=>true|_=>false)=true)(hi:(P.info? ty).map (·.size)=some cs.size)(v:Value)(l:b.getD u undef=v):(results fn b).run P w=.ok (.tuple #[v,.agg cs]) w:=by
 have e:(results fn b).run P w=((asAddr (b.getD p undef)).run P w).andThen fun a m=>((loadVar ty a).run P m).andThen fun v n=>.ok (.tuple #[b.getD u undef,v]) n:=by
  simp only[results,h];simp[Sem.run_bind,Result.andThen]
 subst l;rw[e,j];simp only[asAddr,Sem.run_pure,Result.andThen_ok,run_loadVar_row w g t ty cs c d i k f hi]
def inA (bs:List UInt8)(fm d l:Int):Array Value:=#[.string ⟨bs.toArray⟩,.int .i64 fm,.int .i64 d,.int .i64 l]
def qqp (x:Int×Int):Array Value:=#[.int .i64 x.1,.int .i64 x.2]
theorem qyg (x:Int×Int):(qqp x).all (·.oneCell')=true:=by simp[qqp,Value.oneCell']
structure RIn (W:World)(A:Array Value)(N:Nat)(V:World):Prop where
 box:V.heap[W.heap.size]? = some (.cells A 77)
 flt:V.heap[N]? = some (.cells (qqp (0,0)) 57)
 below:Below W.heap.size W V
 lt:W.heap.size<N
theorem RIn.next (h:RIn W A N V)(a:Below V.heap.size V V'):RIn W A N V' :=
 ⟨(a.block _ (ltA h.box)).trans h.box,(a.block _ (ltA h.flt)).trans h.flt,h.below.trans (a.mono h.below.size),h.lt⟩
theorem RIn.drew (h:RIn W A N V):RIn W A N V.drew:=⟨h.box,h.flt,h.below.drew,h.lt⟩
theorem qyA (W:World)(A:Array Value):RIn W A (W.heap.size+1) ((W.alloc (.cells A 77)).alloc (.cells (qqp (0,0)) 57)) :=
 ⟨(Below.heap_alloc _ _ _ (by simp)).trans (qac _ _),by have:=qac (W.alloc (.cells A 77)) (.cells (qqp (0,0)) 57);simpa using this,(bwA).alloc (by simp) _,by omega⟩
theorem q3m (a:TypeId)(x:Operand)(f:o.op=.load a x)(g:Nat)(i:ev x=.pointer (some ⟨g,0,none⟩))(t:TypeId)(cs:Array Value)(b:Nat×Nat)(d:TypeDesc)(e:W.heap[g]? = some (.cells cs t b))(h:P.underlying a=some d)(c:(match d with|.struct _|.array _ _=>true|_=>false)=true)(hi:(P.info? a).map (·.size)=some cs.size):(execOp ev o).run P W=.ok (.value (.agg cs)) W:=by
 unfold execOp;simp only[f,i,Instr.loadAt,Instr.sureAddr,Sem.run_bind,Sem.run_pure,Result.andThen_ok,run_loadVar_row W g t a cs b d e h c hi]
theorem q05 (x:Int)(h : -9223372036854775808<=x/\x<=9223372036854775807):IntKind.i64.wrap x=x:=(IntKind.wrap_i64 x).trans (by omega)
theorem qz5:(prog.info? 77).map (·.size)=some (inA bs fm d l).size:=by show _=some 4;kernel_rfl
def q0E (r:Except (Int×Int) (Unit×Nat)):Value:=match r with
 |.ok (_,q)=>.tuple #[.int .i64 q,.agg (qqp (0,0))]
 |.error f=>.tuple #[.int .i64 0,.agg (qqp f)]
theorem qxI (h:RIn W A N V)(a:Below V.heap.size V V')(x:Int×Int):(V'.setRow N (qqp x)).heap[N]? = some (.cells (qqp x) 57)/\Below W.heap.size W (V'.setRow N (qqp x)) :=
 ⟨setRow_heap _ _ _ _ _ _ (h.next a).flt,qah (h.next a).below (Nat.le_of_lt h.lt) _⟩
theorem qxL (x:Int×Int):(prog.info? 57).map (·.size)=some (qqp x).size:=q1h
theorem qya {t:TypeId}(h:V.heap[g]? = some (.cells (inA bs fm d l) t fr)):V.cell? ⟨g,0,none⟩=(#[.string ⟨bs.toArray⟩,.int .i64 fm,.int .i64 d,.int .i64 l]:Array Value)[0]?/\V.cell? ⟨g,1,none⟩=(#[.string ⟨bs.toArray⟩,.int .i64 fm,.int .i64 d,.int .i64 l]:Array Value)[1]?/\V.cell? ⟨g,2,none⟩=(#[.string ⟨bs.toArray⟩,.int .i64 fm,.int .i64 d,.int .i64 l]:Array Value)[2]?/\V.cell? ⟨g,3,none⟩=(#[.string ⟨bs.toArray⟩,.int .i64 fm,.int .i64 d,.int .i64 l]:Array Value)[3]? :=
 ⟨qab h 0,qab h 1,qab h 2,qab h 3⟩
theorem ck {Q:Ending->World->Prop}(c:Calls P f args V fun e a=>e=r/\Below V.heap.size V a)(b:∀{V':World},Below V.heap.size V V'->S V')(k:∀w,Hid (S w)->Q r w):Calls P f args V Q :=
 c.mono fun _ _ h=>h.1▸k _ (b h.2)
theorem ckB {Q:Ending->World->Prop}(c:Calls P f args V fun e a=>e=r/\Below V.heap.size V a)(b:∀{V':World},Below V.heap.size V V'->S V')(k:∀w,Below V.heap.size V w->Hid (S w)->Q r w):Calls P f args V Q :=
 c.mono fun _ _ h=>h.1▸k _ h.2 (b h.2)
theorem ck4 {Q:Ending->World->Prop}{t:TypeId}(c:Calls P f args V fun e a=>e=r/\Below V.heap.size V a)(i:∀{V':World},Below V.heap.size V V'->S V')(b:∀w,S w->w.heap[g]? = some (.cells (inA bs fm d l) t fr))(k:∀w,Hid (S w)->w.cell? ⟨g,0,none⟩=(#[.string ⟨bs.toArray⟩,.int .i64 fm,.int .i64 d,.int .i64 l]:Array Value)[0]?->w.cell? ⟨g,1,none⟩=(#[.string ⟨bs.toArray⟩,.int .i64 fm,.int .i64 d,.int .i64 l]:Array Value)[1]?->w.cell? ⟨g,2,none⟩=(#[.string ⟨bs.toArray⟩,.int .i64 fm,.int .i64 d,.int .i64 l]:Array Value)[2]?->w.cell? ⟨g,3,none⟩=(#[.string ⟨bs.toArray⟩,.int .i64 fm,.int .i64 d,.int .i64 l]:Array Value)[3]?->Q r w):Calls P f args V Q :=
 ck c i fun w h=>let z:=qya (b w h);k w h z.1 z.2.1 z.2.2.1 z.2.2.2
theorem qy9 {b:Bool}(fm d:Int)(h:qxS bs l i=b)(V:World):Calls prog 43 #[.agg #[.string ⟨bs.toArray⟩,.int .i64 fm,.int .i64 d,.int .i64 l],.int .i64 i] V fun e a=>e=.returned (.bool b)/\Below V.heap.size V a:=h▸qyI V bs fm d l i
theorem q0U {en:Int}{x:Int×Int}(fm d:Int)(h:qr0 bs l i en=x)(V:World):Calls prog 31 #[.agg #[.string ⟨bs.toArray⟩,.int .i64 fm,.int .i64 d,.int .i64 l],.int .i64 i,.int .i64 en] V fun e a=>e=.returned (.agg (qqp x))/\Below V.heap.size V a:=h▸qyn V bs fm d l i en
theorem q0H (bs:List UInt8)(fm d l:Int)(V:World)(k:Nat):Calls prog 43 #[.agg #[.string ⟨bs.toArray⟩,.int .i64 fm,.int .i64 d,.int .i64 l],.int .i64 k] V fun e a=>e=.returned (.bool (qxS bs l k))/\Below V.heap.size V a:=qyI V bs fm d l k
theorem q09 (bs:List UInt8)(fm d l:Int)(V:World)(k:Nat)(a:Int):Calls prog 31 #[.agg #[.string ⟨bs.toArray⟩,.int .i64 fm,.int .i64 d,.int .i64 l],.int .i64 k,.int .i64 a] V fun e b=>e=.returned (.agg (qqp (qr0 bs l k a)))/\Below V.heap.size V b:=qyn V bs fm d l k a
theorem stF {rest:List Oper}(x y:Nat)(c:o.guard=none)(d:o.op=.store 57 (.tmp x) (.tmp y))(g:Nat)(F:Int×Int)(e:a.eval (.tmp x)=.pointer (some ⟨g,0,none⟩))(f:a.eval (.tmp y)=.agg (qqp F))(b:w.heap[g]? = some (.cells (qqp (0,0)) 57))(h:wpList prog ops Q rest (a.put o.dst undef) (w.setRow g (qqp F))):wpList prog ops Q (o::rest) a w :=
 wpList_store_row c _ _ _ d g _ e f _ _ b (qxL _) rfl (qyg _) h
theorem tk (i d:Nat)(v:Value)(hi:ops[i]? = some oi)(b:(Region.noSelect ops&&Region.free md ops listed i&&(Region.ready md ops listed).contains i&&oi.dst==some d&&Region.wanted oi (yielded ops a.tmps))=true)(e:∀c a w,Q (.panic c) (a.put (some d) v) w->Q (.panic c) a w)(g:∀Z,S Z->(execOp a.eval oi).run P Z=.ok (.value v) Z)(f:S w)(h:wpAnyH P md ops Q S fuel (listed.setIfInBounds i true) (a.put (some d) v) w):wpAnyH P md ops Q S (fuel+1) listed a w:=by
 simp only[Bool.and_eq_true] at b;exact q21 (some d) hi b.1.1.1.1 b.1.1.1.2 b.1.1.2 e (by simpa using b.1.2) (.inl ⟨b.2,g⟩) f h
theorem tkk (i b:Nat)(v:Value)(m:(Region.noSelect ops&&Region.free md ops listed i&&(Region.ready md ops listed).contains i,ops[i]?.map fun o=>(o.dst,Region.wanted o (yielded ops a.tmps),fun Z=>(execOp a.eval o).run P Z))=(true,some (some b,true,fun Z=>.ok (.value v) Z)))(k:∀c a w,Q (.panic c) (a.put (some b) v) w->Q (.panic c) a w)(l:S w)(h:wpAnyH P md ops Q S fuel (listed.setIfInBounds i true) (a.put (some b) v) w):wpAnyH P md ops Q S (fuel+1) listed a w:=by
 obtain⟨d,g⟩:=Prod.mk.inj m;obtain⟨o,n,e⟩:=Option.map_eq_some_iff.1 g;obtain⟨e,f⟩:=Prod.mk.inj e;obtain⟨f,j⟩:=Prod.mk.inj f;simp only[Bool.and_eq_true] at d;exact q21 (some b) n d.1.1 d.1.2 d.2 k e (.inl ⟨f,fun Z _=>congrFun j Z⟩) l h
theorem tkx (i d:Nat)(hi:ops[i]? = some oi)(b:(Region.noSelect ops&&Region.free md ops listed i&&(Region.ready md ops listed).contains i&&oi.dst==some d && !Region.wanted oi (yielded ops a.tmps))=true)(e:∀c a w,Q (.panic c) (a.put (some d) undef) w->Q (.panic c) a w)(f:S w)(h:wpAnyH P md ops Q S fuel (listed.setIfInBounds i true) (a.put (some d) undef) w):wpAnyH P md ops Q S (fuel+1) listed a w:=by
 simp only[Bool.and_eq_true,Bool.not_eq_true'] at b;exact q21 (some d) hi b.1.1.1.1 b.1.1.1.2 b.1.1.2 e (by simpa using b.1.2) (.inr ⟨b.2,rfl⟩) f h
theorem yF (x:Nat)(a:W.heap[g]? = some (.cells (qqp F) 57))(b:o.op=.load 57 (.tmp x))(c:ev (.tmp x)=.pointer (some ⟨g,0,none⟩)):(execOp ev o).run prog W=.ok (.value (.agg (qqp F))) W :=
 q3m _ _ b g c _ _ _ _ a underlying57 rfl (qxL _)
theorem yI (x:Nat)(a:W.heap[g]? = some (.cells (inA bs fm d l) 77))(b:o.op=.load 77 (.tmp x))(c:ev (.tmp x)=.pointer (some ⟨g,0,none⟩)):(execOp ev o).run prog W=.ok (.value (.agg #[.string ⟨bs.toArray⟩,.int .i64 fm,.int .i64 d,.int .i64 l])) W :=
 q3m _ _ b g c _ _ _ _ a underlying77 rfl qz5
theorem q3v (h:fn.results=#[.tmp u,.cell p 57])(a:w.heap[g]? = some (.cells (qqp F) 57))(v:Value)(b:tmps.getD p undef=.pointer (some ⟨g,0,none⟩))(c:tmps.getD u undef=v):(results fn tmps).run prog w=.ok (.tuple #[v,.agg (qqp F)]) w :=
 q0b h _ _ g _ _ _ _ b a underlying57 rfl (qxL _) v c
theorem eoF {A:Act}{B:Prop}(h:fn.results=#[.tmp u,.cell p 57])(b:w.heap[g]? = some (.cells (qqp F) 57)/\B)(v:Value)(c:A.tmps.getD p undef=.pointer (some ⟨g,0,none⟩))(d:A.tmps.getD u undef=v)(a:A.defers=[])(k:R (.returned (.tuple #[v,.agg (qqp F)])) w):bodyPost prog fn R .ret A w:=bodyPost_ret (q3v h b.1 v c d) a k
theorem q16 (W:World)(bs:List UInt8)(fm d l:Int):Hid (RIn W (inA bs fm d l) (W.heap.size+1) ((W.alloc (.cells #[.string ⟨bs.toArray⟩,.int .i64 fm,.int .i64 d,.int .i64 l] 77)).alloc (.cells #[.int .i64 0,.int .i64 0] 57))):=qyA W _
theorem q3a {c:UInt8}{v:Nat}(a:bs[i]? = some c)(b:c.toNat=v)(V:World):(Instr.index 9 (.string ⟨bs.toArray⟩) (.int .i64 (i:Int))).run prog V=.ok (.int .u8 v) V:=b▸qxF bs i c a V
theorem qyH (W:World)(bs:List UInt8)(fm d l lim:Int)(i:Nat)(w:List UInt8)(hw:w.length<=100)(hl:Lm bs l lim)(hi:InR bs lim i)(hb:bs.length<=281474976710656):Calls prog 71 #[.agg (inA bs fm d l),.int .i64 i,.string ⟨w.toArray⟩] W fun e T=>e=.returned (q0E (qaT bs lim w i))/\Below W.heap.size W T:=by
 have af:=qyo w;obtain⟨R,B⟩:∃R,Hid (qaT bs lim w i=R):=⟨_,show _=_ from rfl⟩
 rw[B.out];have ad:=hi.1;have A:=qaa hl;have y:=qaa hi;have U:=q0H bs fm d l;have C:∀(V:World) (k:Nat) (O:Int),Calls prog 31 #[.agg #[.string ⟨bs.toArray⟩,.int .i64 fm,.int .i64 d,.int .i64 l],.int .i64 k,.int .i64 O] V fun e T=>e=.returned (q1Z (qr0 bs l k O))/\Below V.heap.size V T:=fun V k O=>qyn V bs fm d l k O;clear hl hi;unfold inA;go_enter func71,ntmps71;go_wp2
 go_loopg [8] w.length (fun g ab wr=>∃k:Nat,ab=.int .i64 k/\Hid (k+g=w.length)/\Hid (RIn W (inA bs fm d l) (W.heap.size+1) wr)/\Hid (qaT bs lim (w.drop k) (i+k)=R)/\Hid (InR bs lim (i+k)))
 case atStart=>exact⟨0,rfl,by show _=_;omega,qyA _ _,B,y⟩
 case round =>
  clear B y;obtain⟨k,rfl,E,q,B,y⟩:=hrel;have ae:=y.out.1;obtain⟨L,M,c2,N⟩:=qya q.out.box;have o:=fun V=>U V (i+k);have r:((i+k:Nat):Int)=(i:Int)+(k:Int):=by omega
  rw[r] at o
  cases gk with
  |zero =>
   have v:Hid (R=.ok ((),i+w.length)):=by
    show _=_;have h1:=E.out;rw[<-B.out,List.drop_eq_nil_of_le (by omega),qaT,show k=w.length by omega]
   have H:¬(k:Int)<(w.length:Int):=by have:=E.out;omega
   have t:=qxI q.out bwR (0,0);clear B U o C
   go_wp2_with (first
    |(refine wpList_store_row rfl 57 _ _ rfl (W.heap.size+1) (qqp (0,0)) rfl rfl 57 (qqp (0,0)) q.out.flt (qxL _) rfl (qyg _) ?_))
   refine eoF results71 t _ rfl rfl rfl ⟨?_,t.2⟩;rw[v.out];simp[q0E]
  |succ g =>
   have G:k<w.length:=by have:=E.out;omega
   have H:(k:Int)<(w.length:Int):=by omega
   obtain⟨x,Y⟩:∃x,x=w[k]:=⟨_,rfl⟩
   have J:w[k]? = some x:=by rw[Y];exact List.getElem?_eq_getElem G
   have P:=fun V=>qxF w k x J V;have j:=B.out;rw[List.drop_eq_getElem_cons G,<-Y,qaT] at j;clear B Y U;have b:(fun V:World=>V.heap[W.heap.size]? = some (.cells (inA bs fm d l) 77)) {wr with drawn:=wr.drawn+1}:=q.out.box
   cases m:bs[i+k]? with
   |none =>
    rw[m] at j;simp only[] at j;rw[qxX m] at o;have p:=fun V=>C V (i+k) 9;rw[qyc y.out.1 m,r] at p;have v:Hid (R=.error (9,(i:Int)+(k:Int))):=by show _=_;rw[<-j,r]
    clear j m C r P J;go_wp2;refine wp_region_held (S:=fun V=>V.heap[W.heap.size]? = some (.cells (inA bs fm d l) 77)) (by kernel_rfl) ?_;refine tk 0 15 (.agg (inA bs fm d l)) rfl (by kernel_rfl) iQ3 (fun Z f=>yI 3 f rfl rfl) b ?_;refine tkk 1 16 (.int .i64 i) (by kernel_rfl) iQ3 b ?_;refine tkk 2 17 (.int .i64 k) (by kernel_rfl) iQ3 b ?_;refine tk 3 18 (.int .i64 ((i:Int)+(k:Int))) rfl (by kernel_rfl) iQ3 (fun Z f => ?y3) b ?_
    case y3=>(go_simp;exact q05 _ (by omega))
    refine rdH 4 rfl (by kernel_rfl) (fun K s => ?_);go_simp;refine(o _).mono ?_;rintro e h ⟨rfl,n⟩;simp only[];have a:=(n.block _ (ltA b)).trans b;refine s.out _ _ a (fun _ => ?_);clear s;refine tkk 5 20 (.bool true) (by kernel_rfl) iQ3 a ?_;refine tkk 6 21 (.bool true) (by kernel_rfl) iQ3 a ?_;refine tkx 7 22 rfl (by kernel_rfl) iQ3 a ?_;refine tkx 8 23 rfl (by kernel_rfl) iQ3 a ?_;refine tkx 9 24 rfl (by kernel_rfl) iQ3 a ?_;refine tkx 10 25 rfl (by kernel_rfl) iQ3 a ?_;refine tkx 11 26 rfl (by kernel_rfl) iQ3 a ?_;refine tkx 12 27 rfl (by kernel_rfl) iQ3 a ?_;refine tkx 13 28 rfl (by kernel_rfl) iQ3 a ?_;refine tkx 14 29 rfl (by kernel_rfl) iQ3 a ?_;refine tkx 15 30 rfl (by kernel_rfl) iQ3 a ?_;refine tkx 16 31 rfl (by kernel_rfl) iQ3 a ?_;refine tkk 17 32 (.bool true) (by kernel_rfl) iQ3 a ?_;refine wpAnyH_done (by kernel_rfl) ?_ _;go_simp;clear b o E G H A L M c2 N
    go_wp2_with (first
     |(go_at_call 31;refine(p _).mono ?_;clear p;rintro e w3 ⟨rfl,D⟩)
     |(refine wpList_store_row rfl 57 _ _ rfl (W.heap.size+1) (qqp (9,(i:Int)+(k:Int))) rfl rfl 57 (qqp (0,0)) ((q.out.drew.next n).next D).flt (qxL _) rfl (qyg _) ?_)
     |(refine wpList_load_row rfl 77 _ rfl W.heap.size rfl _ _ _ _ a underlying77 rfl qz5 ?_))
    have t:=qxI (q.out.drew.next n) D (9,(i:Int)+(k:Int));refine eoF results71 t _ rfl rfl rfl ⟨?_,t.2⟩;rw[v.out];rfl
   |some c =>
    rw[m] at j;simp only[] at j;have Q:=fun V=>qxF bs (i+k) c m V;rw[r] at Q;by_cases u:((i+k:Nat):Int)=lim
    ·rw[if_pos u] at j;rw[qxZ A.out m u] at o;have p:=fun V=>C V (i+k) 9;rw[qxW A.out m u,r] at p;have v:Hid (R=.error (8,(i:Int)+(k:Int))):=by show _=_;rw[<-j,r]
     clear j m u C r P J Q;go_wp2;refine wp_region_held (S:=fun V=>V.heap[W.heap.size]? = some (.cells (inA bs fm d l) 77)) (by kernel_rfl) ?_;refine tk 0 15 (.agg (inA bs fm d l)) rfl (by kernel_rfl) iQ3 (fun Z f=>yI 3 f rfl rfl) b ?_;refine tkk 1 16 (.int .i64 i) (by kernel_rfl) iQ3 b ?_;refine tkk 2 17 (.int .i64 k) (by kernel_rfl) iQ3 b ?_;refine tk 3 18 (.int .i64 ((i:Int)+(k:Int))) rfl (by kernel_rfl) iQ3 (fun Z f => ?y3) b ?_
     case y3=>(go_simp;exact q05 _ (by omega))
     refine rdH 4 rfl (by kernel_rfl) (fun K s => ?_);go_simp;refine(o _).mono ?_;rintro e h ⟨rfl,n⟩;simp only[];have a:=(n.block _ (ltA b)).trans b;refine s.out _ _ a (fun _ => ?_);clear s;refine tkk 5 20 (.bool true) (by kernel_rfl) iQ3 a ?_;refine tkk 6 21 (.bool true) (by kernel_rfl) iQ3 a ?_;refine tkx 7 22 rfl (by kernel_rfl) iQ3 a ?_;refine tkx 8 23 rfl (by kernel_rfl) iQ3 a ?_;refine tkx 9 24 rfl (by kernel_rfl) iQ3 a ?_;refine tkx 10 25 rfl (by kernel_rfl) iQ3 a ?_;refine tkx 11 26 rfl (by kernel_rfl) iQ3 a ?_;refine tkx 12 27 rfl (by kernel_rfl) iQ3 a ?_;refine tkx 13 28 rfl (by kernel_rfl) iQ3 a ?_;refine tkx 14 29 rfl (by kernel_rfl) iQ3 a ?_;refine tkx 15 30 rfl (by kernel_rfl) iQ3 a ?_;refine tkx 16 31 rfl (by kernel_rfl) iQ3 a ?_;refine tkk 17 32 (.bool true) (by kernel_rfl) iQ3 a ?_;refine wpAnyH_done (by kernel_rfl) ?_ _;go_simp;clear b o E G H A L M c2 N
     go_wp2_with (first
      |(go_at_call 31;refine(p _).mono ?_;clear p;rintro e w3 ⟨rfl,D⟩)
      |(refine wpList_store_row rfl 57 _ _ rfl (W.heap.size+1) (qqp (8,(i:Int)+(k:Int))) rfl rfl 57 (qqp (0,0)) ((q.out.drew.next n).next D).flt (qxL _) rfl (qyg _) ?_)
      |(refine wpList_load_row rfl 77 _ rfl W.heap.size rfl _ _ _ _ a underlying77 rfl qz5 ?_))
     have t:=qxI (q.out.drew.next n) D (8,(i:Int)+(k:Int));refine eoF results71 t _ rfl rfl rfl ⟨?_,t.2⟩;rw[v.out];rfl
    rw[if_neg u] at j;rw[qyb A.out y.out m u] at o;have p:=fun V=>C V (i+k) 9;rw[qxN A.out y.out m u,r] at p;have z:Hid (InR bs lim (i+(k+1))):=qxG y.out m u;have ac:=ltL m;by_cases F:c=x
    ·rw[if_pos F] at j;have I:((c.toNat:Int)==(x.toNat:Int))=true:=by rw[F];simp
     have v:Hid (qaT bs lim (w.drop (k+1)) (i+(k+1))=R):=j;have HG:Hid ((k+1)+g=w.length):=by show _=_;have:=E.out;omega
     clear j m u C p r J F;go_wp2;refine wp_region_held (S:=fun V=>V.heap[W.heap.size]? = some (.cells (inA bs fm d l) 77)) (by kernel_rfl) ?_;refine tk 0 15 (.agg (inA bs fm d l)) rfl (by kernel_rfl) iQ3 (fun Z f=>yI 3 f rfl rfl) b ?_;refine tkk 1 16 (.int .i64 i) (by kernel_rfl) iQ3 b ?_;refine tkk 2 17 (.int .i64 k) (by kernel_rfl) iQ3 b ?_;refine tk 3 18 (.int .i64 ((i:Int)+(k:Int))) rfl (by kernel_rfl) iQ3 (fun Z f => ?y3) b ?_
     case y3=>(go_simp;exact q05 _ (by omega))
     refine rdH 4 rfl (by kernel_rfl) (fun K s => ?_);go_simp;refine(o _).mono ?_;rintro e h ⟨rfl,n⟩;simp only[];have a:=(n.block _ (ltA b)).trans b;refine s.out _ _ a (fun _ => ?_);clear s;refine tkk 5 20 (.bool false) (by kernel_rfl) iQ3 a ?_;refine tkk 6 21 (.bool false) (by kernel_rfl) iQ3 a ?_;refine tkk 7 22 (.pointer (some ⟨W.heap.size,0,none⟩)) (by kernel_rfl) iQ3 a ?_;refine tk 8 23 (.string ⟨bs.toArray⟩) rfl (by kernel_rfl) iQ3 (fun Z f => ?y8) a ?_
     case y8=>(have X:=qab f 0;unfold inA at X;go_simp)
     refine tkk 9 24 (.int .i64 i) (by kernel_rfl) iQ3 a ?_;refine tkk 10 25 (.int .i64 k) (by kernel_rfl) iQ3 a ?_;refine tk 11 26 (.int .i64 ((i:Int)+(k:Int))) rfl (by kernel_rfl) iQ3 (fun Z f => ?y11) a ?_
     case y11=>(go_simp;exact q05 _ (by omega))
     refine tk 12 27 (.int .u8 c.toNat) rfl (by kernel_rfl) iQ3 (fun Z f => ?y12) a ?_
     case y12=>(go_simp)
     refine tkk 13 28 (.string ⟨w.toArray⟩) (by kernel_rfl) iQ3 a ?_;refine tkk 14 29 (.int .i64 k) (by kernel_rfl) iQ3 a ?_;refine tk 15 30 (.int .u8 x.toNat) rfl (by kernel_rfl) iQ3 (fun Z f => ?y15) a ?_
     case y15=>(go_simp)
     refine tk 16 31 (.bool (false)) rfl (by kernel_rfl) iQ3 (fun Z f => ?y16) a ?_
     case y16=>(go_simp;simpa using I)
     refine tkk 17 32 (.bool (false)) (by kernel_rfl) iQ3 a ?_;refine wpAnyH_done (by kernel_rfl) ?_ _;go_simp;clear b o E H A L M c2 N Q P I;go_wp2;go_roundg g
     case measure=>omega
     case rel=>exact⟨k+1,by go_num,HG,q.out.drew.next n,v,z⟩
    rw[if_neg F] at j;have I:((c.toNat:Int)==(x.toNat:Int))=false:=by
     have:¬c.toNat=x.toNat:=fun aa=>F (UInt8.toNat_inj.1 aa);simp;omega
    have v:Hid (R=.error (9,(i:Int)+(k:Int))):=by show _=_;rw[<-j];simp
    clear j m u C r J F z;go_wp2;refine wp_region_held (S:=fun V=>V.heap[W.heap.size]? = some (.cells (inA bs fm d l) 77)) (by kernel_rfl) ?_;refine tk 0 15 (.agg (inA bs fm d l)) rfl (by kernel_rfl) iQ3 (fun Z f=>yI 3 f rfl rfl) b ?_;refine tkk 1 16 (.int .i64 i) (by kernel_rfl) iQ3 b ?_;refine tkk 2 17 (.int .i64 k) (by kernel_rfl) iQ3 b ?_;refine tk 3 18 (.int .i64 ((i:Int)+(k:Int))) rfl (by kernel_rfl) iQ3 (fun Z f => ?y3) b ?_
    case y3=>(go_simp;exact q05 _ (by omega))
    refine rdH 4 rfl (by kernel_rfl) (fun K s => ?_);go_simp;refine(o _).mono ?_;rintro e h ⟨rfl,n⟩;simp only[];have a:=(n.block _ (ltA b)).trans b;refine s.out _ _ a (fun _ => ?_);clear s;refine tkk 5 20 (.bool false) (by kernel_rfl) iQ3 a ?_;refine tkk 6 21 (.bool false) (by kernel_rfl) iQ3 a ?_;refine tkk 7 22 (.pointer (some ⟨W.heap.size,0,none⟩)) (by kernel_rfl) iQ3 a ?_;refine tk 8 23 (.string ⟨bs.toArray⟩) rfl (by kernel_rfl) iQ3 (fun Z f => ?y8) a ?_
    case y8=>(have X:=qab f 0;unfold inA at X;go_simp)
    refine tkk 9 24 (.int .i64 i) (by kernel_rfl) iQ3 a ?_;refine tkk 10 25 (.int .i64 k) (by kernel_rfl) iQ3 a ?_;refine tk 11 26 (.int .i64 ((i:Int)+(k:Int))) rfl (by kernel_rfl) iQ3 (fun Z f => ?y11) a ?_
    case y11=>(go_simp;exact q05 _ (by omega))
    refine tk 12 27 (.int .u8 c.toNat) rfl (by kernel_rfl) iQ3 (fun Z f => ?y12) a ?_
    case y12=>(go_simp)
    refine tkk 13 28 (.string ⟨w.toArray⟩) (by kernel_rfl) iQ3 a ?_;refine tkk 14 29 (.int .i64 k) (by kernel_rfl) iQ3 a ?_;refine tk 15 30 (.int .u8 x.toNat) rfl (by kernel_rfl) iQ3 (fun Z f => ?y15) a ?_
    case y15=>(go_simp)
    refine tk 16 31 (.bool (true)) rfl (by kernel_rfl) iQ3 (fun Z f => ?y16) a ?_
    case y16=>(go_simp;simpa using I)
    refine tkk 17 32 (.bool (true)) (by kernel_rfl) iQ3 a ?_;refine wpAnyH_done (by kernel_rfl) ?_ _;go_simp;clear Q P I;clear b o E G H A L M c2 N
    go_wp2_with (first
     |(go_at_call 31;refine(p _).mono ?_;clear p;rintro e w3 ⟨rfl,D⟩)
     |(refine wpList_store_row rfl 57 _ _ rfl (W.heap.size+1) (qqp (9,(i:Int)+(k:Int))) rfl rfl 57 (qqp (0,0)) ((q.out.drew.next n).next D).flt (qxL _) rfl (qyg _) ?_)
     |(refine wpList_load_row rfl 77 _ rfl W.heap.size rfl _ _ _ _ a underlying77 rfl qz5 ?_))
    have t:=qxI (q.out.drew.next n) D (9,(i:Int)+(k:Int));refine eoF results71 t _ rfl rfl rfl ⟨?_,t.2⟩;rw[v.out];rfl

theorem qzk {ty ty2:TypeId}(h:fn.results=#[.cell p ty,.tmp u,.cell q ty2])(b:Array Value)(w:World)(g i:Nat)(t l:TypeId)(cs c:Array Value)(j k:Nat×Nat)(d f:TypeDesc)(y:b.getD p undef=.pointer (some ⟨g,0,none⟩))(r:w.heap[g]? = some (.cells cs t j))(A:P.underlying ty=some d)(n:(match d with|.struct _|.array _ _=>true|_=>false)=true)(hi:(P.info? ty).map (·.size)=some cs.size)(z:b.getD q undef=.pointer (some ⟨i,0,none⟩))(s:w.heap[i]? = some (.cells c l k))(B:P.underlying ty2=some f)(o:(match f with|.struct _|.array _ _=>true|_=>false)=true)(x:(P.info? ty2).map (·.size)=some c.size)(v:Value)(C:b.getD u undef=v):(results fn b).run P w=.ok (.tuple #[.agg cs,v,.agg c]) w:=by
 have e:(results fn b).run P w=((asAddr (b.getD p undef)).run P w).andThen fun a E=>((loadVar ty a).run P E).andThen fun v F=>((asAddr (b.getD q undef)).run P F).andThen fun m G=>((loadVar ty2 m).run P G).andThen fun D H=>.ok (.tuple #[v,b.getD u undef,D]) H:=by
  simp only[results,h];simp[Sem.run_bind,Result.andThen]
 subst C;rw[e,y,z];simp only[asAddr,Sem.run_pure,Result.andThen_ok,run_loadVar_row w g t ty cs j d r A n hi,run_loadVar_row w i l ty2 c k f s B o x]
def qxE:Value:=.slice none 0 0
def thA (kind n:Int)(s:ByteArray)(ks vs:Value):Array Value:=#[.int .i64 kind,.int .i64 n,.string s,ks,vs]
def th0:Array Value:=thA 0 0 ⟨#[]⟩ qxE qxE
theorem qyO:(prog.info? 55).map (·.size)=some 5:=by kernel_rfl
theorem qyd (k n:Int)(s:ByteArray)(ks a:Value):(prog.info? 55).map (·.size)=some (thA k n s ks a).size:=qyO
structure RTh (W:World)(A:Array Value)(V:World):Prop where
 box:V.heap[W.heap.size]? = some (.cells A 77)
 th:V.heap[W.heap.size+1]? = some (.cells th0 55)
 flt:V.heap[W.heap.size+2]? = some (.cells (qqp (0,0)) 57)
 below:Below W.heap.size W V
theorem RTh.next (h:RTh W A V)(a:Below V.heap.size V V'):RTh W A V' :=
 ⟨(a.block _ (ltA h.box)).trans h.box,(a.block _ (ltA h.th)).trans h.th,(a.block _ (ltA h.flt)).trans h.flt,h.below.trans (a.mono h.below.size)⟩
theorem RTh.drew (h:RTh W A V):RTh W A V.drew:=⟨h.box,h.th,h.flt,h.below.drew⟩
theorem q0S (W:World)(A:Array Value):RTh W A (((W.alloc (.cells A 77)).alloc (.cells th0 55)).alloc (.cells (qqp (0,0)) 57)) :=
 ⟨((Below.heap_alloc _ _ _ (by simp;omega)).trans (Below.heap_alloc _ _ _ (by simp))).trans (qac _ _),(Below.heap_alloc _ _ _ (by simp)).trans (by have:=qac (W.alloc (.cells A 77)) (.cells th0 55);simpa using this),by have:=qac ((W.alloc (.cells A 77)).alloc (.cells th0 55)) (.cells (qqp (0,0)) 57);simpa using this,((bwA).alloc (by simp) _).alloc (by simp;omega) _⟩
theorem qxK (h:RTh W A V)(b:Below V.heap.size V V')(y:Array Value)(x:Int×Int):((V'.setRow (W.heap.size+1) y).setRow (W.heap.size+2) (qqp x)).heap[W.heap.size+1]? = some (.cells y 55)/\((V'.setRow (W.heap.size+1) y).setRow (W.heap.size+2) (qqp x)).heap[W.heap.size+2]? = some (.cells (qqp x) 57)/\Below W.heap.size W ((V'.setRow (W.heap.size+1) y).setRow (W.heap.size+2) (qqp x)):=by
 have a:=h.next b
 refine⟨?_,?_,qah (qah a.below (by omega) _) (by omega) _⟩
 ·rw[setRow_other _ _ _ _ (by omega)];exact setRow_heap _ _ _ _ _ _ a.th
 exact setRow_heap _ _ _ _ _ _ (sx (by omega) a.flt)
theorem qxT (h:RTh W A V)(a:Below V.heap.size V V')(y:Array Value):(V'.setRow (W.heap.size+1) y).heap[W.heap.size+2]? = some (.cells (qqp (0,0)) 57):=sx (by omega) (h.next a).flt
theorem q0c (k n:Int)(s:ByteArray)(a b:Option Addr)(i j p q:Nat):(thA k n s (.slice a i j) (.slice b p q)).all (·.oneCell')=true:=by simp[thA,Value.oneCell']
def q3t (r:Except (Int×Int) (Int×Nat))(e:Ending):Prop:=match r with
 |.ok (z,q)=>e=.returned (.tuple #[.agg (thA 3 z ⟨#[]⟩ qxE qxE),.int .i64 q,.agg (qqp (0,0))])
 |.error f=>e=.returned (.tuple #[.agg th0,.int .i64 0,.agg (qqp f)])
theorem q2I (num d:Nat)(a:d<=9):(-(num:Int)<(-9223372036854775808+(d:Int)).tdiv 10)↔(9223372036854775808-d) / 10<num:=by
 have e:(-9223372036854775808+(d:Int)) = -((9223372036854775808-d:Nat):Int):=by omega
 rw[e,Int.neg_tdiv,show((10:Int))=((10:Nat):Int) from rfl,<-Int.ofNat_tdiv];omega
def ThG (T:Array Value):Prop:=T.size=5/\T.all (·.oneCell')=true
theorem thg {a b:Option Addr}{j p q:Nat}:ThG (thA k n s (.slice a i j) (.slice b p q)):=⟨rfl,q0c _ _ _ _ _ _ _ _ _⟩
theorem stT {rest:List Oper}(x y:Nat)(d:o.guard=none)(e:o.op=.store 55 (.tmp x) (.tmp y))(g:Nat)(T:Array Value)(f:a.eval (.tmp x)=.pointer (some ⟨g,0,none⟩))(i:a.eval (.tmp y)=.agg T)(c:w.heap[g]? = some (.cells th0 55))(b:ThG T)(h:wpList prog ops Q rest (a.put o.dst undef) (w.setRow g T)):wpList prog ops Q (o::rest) a w :=
 wpList_store_row d _ _ _ e g _ f i _ _ c (by rw[b.1];exact qyO) (by rw[b.1];rfl) b.2 h
theorem q3u (h:fn.results=#[.cell p 55,.tmp u,.cell q 57])(a:w.heap[g]? = some (.cells (thA k n s ks vs) 55))(b:w.heap[g2]? = some (.cells (qqp F) 57))(v:Value)(c:tmps.getD p undef=.pointer (some ⟨g,0,none⟩))(d:tmps.getD q undef=.pointer (some ⟨g2,0,none⟩))(e:tmps.getD u undef=v):(results fn tmps).run prog w=.ok (.tuple #[.agg (thA k n s ks vs),v,.agg (qqp F)]) w :=
 qzk h _ _ g g2 _ _ _ _ _ _ _ _ c a underlying55 rfl (qyd _ _ _ _ _) d b underlying57 rfl (qxL _) v e
theorem eoT {A:Act}{B:Prop}(h:fn.results=#[.cell p 55,.tmp u,.cell q 57])(a:w.heap[g]? = some (.cells (thA k n s ks vs) 55)/\w.heap[g2]? = some (.cells (qqp F) 57)/\B)(v:Value)(c:A.tmps.getD p undef=.pointer (some ⟨g,0,none⟩))(d:A.tmps.getD q undef=.pointer (some ⟨g2,0,none⟩))(e:A.tmps.getD u undef=v)(b:A.defers=[])(f:R (.returned (.tuple #[.agg (thA k n s ks vs),v,.agg (qqp F)])) w):bodyPost prog fn R .ret A w:=bodyPost_ret (q3u h a.1 a.2.1 v c d e) b f
theorem qzA (W:World)(bs:List UInt8)(fm d l:Int):Hid (RTh W (inA bs fm d l) (((W.alloc (.cells #[.string ⟨bs.toArray⟩,.int .i64 fm,.int .i64 d,.int .i64 l] 77)).alloc (.cells th0 55)).alloc (.cells (qqp (0,0)) 57))):=q0S W _
theorem yT (x:Nat)(a:W.heap[g]? = some (.cells (thA k n s ks vs) 55))(b:o.op=.load 55 (.tmp x))(c:ev (.tmp x)=.pointer (some ⟨g,0,none⟩)):(execOp ev o).run prog W=.ok (.value (.agg (thA k n s ks vs))) W :=
 q3m _ _ b g c _ _ _ _ a underlying55 rfl (qyd _ _ _ _ _)

def q3k (r:Except (Int×Int) (Nat×Nat)):Value:=match r with
 |.ok (x,_)=>.tuple #[.int .i64 x,.agg (qqp (0,0))]
 |.error f=>.tuple #[.int .i64 0,.agg (qqp f)]
theorem q0Y (W:World)(bs:List UInt8)(fm d l lim:Int)(i:Nat)(Q:Lm bs l lim)(hi:InR bs lim i)(hb:bs.length<=281474976710656):Calls prog 155 #[.agg (inA bs fm d l),.int .i64 i] W fun e S=>e=.returned (q3k (qgA bs lim 4 i 0))/\Below W.heap.size W S:=by
 obtain⟨R,x⟩:∃R,Hid (qgA bs lim 4 i 0=R):=⟨_,show _=_ from rfl⟩
 rw[x.out];have ac:=hi.1;have I:=qaa Q;have D:=qaa hi;have F:=q0H bs fm d l;have E:=q09 bs fm d l;clear Q hi;unfold inA;go_enter func155,ntmps155;go_wp2
 go_loopg [6,7] 4 (fun g Z Y wr=>∃k o:Nat,Y=.int .i64 k/\Z=.int .i64 o/\Hid (k+g=i+4/\i<=k)/\Hid (o<=65535/\(1<=g->o*16+15<=65535)/\(2<=g->o*256+255<=65535)/\(3<=g->o*4096+4095<=65535)/\(4<=g->o=0))/\Hid (RIn W (inA bs fm d l) (W.heap.size+1) wr)/\Hid (qgA bs lim g k o=R)/\Hid (InR bs lim k))
 case atStart=>exact⟨i,0,rfl,rfl,⟨rfl,Nat.le_refl _⟩,⟨by omega,by omega,by omega,by omega,fun _=>rfl⟩,qyA _ _,x,D⟩
 case round =>
  clear x D;obtain⟨k,o,rfl,rfl,u,O,v,x,D⟩:=hrel;have U:=D.out.1;have ae:=O.out.1;obtain⟨a,b,c2,f⟩:=qya v.out.box;have m:=fun V=>F V k
  cases gk with
  |zero =>
   have X:¬(k:Int)<(i:Int)+4:=by have:=u.out;omega
   have y:Hid (R=.ok (o,k)):=by show _=_;rw[<-x.out,qgA]
   clear x F m E u
   go_wp2_with (first
    |(refine stF 5 72 rfl rfl (W.heap.size+1) (0,0) rfl rfl ?_ ?_;exact v.out.flt))
   have n:=qxI v.out bwR (0,0);refine eoF results155 n _ rfl rfl rfl ⟨?_,n.2⟩;rw[y.out];rfl
  |succ g =>
   have X:(k:Int)<(i:Int)+4:=by have:=u.out;omega
   have s:=x.out;rw[qgA] at s
   cases t:bs[k]? with
   |none =>
    rw[t] at s;simp only[] at s;have r:=fun V=>E V k 9;rw[qxX t] at m;rw[qyc U t] at r;have y:=qaa s.symm;clear s t E F x u
    go_wp2_with (first
     |(go_at_call 43;refine ck4 (m _) v.out.next (fun _ h=>h.box) ?_;clear m a b c2 f;intro C p a b c2 f)
     |(go_at_call 31;refine ck4 (r _) p.out.next (fun _ h=>h.box) ?_;clear r a b c2 f;intro H q a b c2 f)
     |(refine stF 5 22 rfl rfl (W.heap.size+1) (9,(k:Int)) rfl rfl ?_ ?_;exact q.out.flt))
    have n:=qxI q.out bwR (9,(k:Int));refine eoF results155 n _ rfl rfl rfl ⟨?_,n.2⟩;rw[y.out];rfl
   |some c =>
    rw[t] at s;simp only[] at s;have T:=fun V=>qxF bs k c t V;have ad:=ltL t;have r:=fun V=>E V k 9;by_cases z:(k:Int)=lim
    ·rw[if_pos z] at s;rw[qxZ I.out t z] at m;rw[qxW I.out t z] at r;have y:=qaa s.symm;clear s t E F x u z T
     go_wp2_with (first
      |(go_at_call 43;refine ck4 (m _) v.out.next (fun _ h=>h.box) ?_;clear m a b c2 f;intro C p a b c2 f)
      |(go_at_call 31;refine ck4 (r _) p.out.next (fun _ h=>h.box) ?_;clear r a b c2 f;intro H q a b c2 f)
      |(refine stF 5 22 rfl rfl (W.heap.size+1) (8,(k:Int)) rfl rfl ?_ ?_;exact q.out.flt))
     have n:=qxI q.out bwR (8,(k:Int));refine eoF results155 n _ rfl rfl rfl ⟨?_,n.2⟩;rw[y.out];rfl
    rw[if_neg z] at s;rw[qyb I.out D.out t z] at m;rw[qxN I.out D.out t z] at r;have J:=qaa (qxG D.out t z)
    cases j:qqh c with
    |none =>
     rw[j] at s;have y:Hid (R=.error (9,(k:Int))):=s.symm;have A:(c.toNat:Int)<48\/(57<(c.toNat:Int)/\(c.toNat:Int)<65)\/(70<(c.toNat:Int)/\(c.toNat:Int)<97)\/102<(c.toNat:Int):=by
      unfold qqh qcQ at j;split at j
      ·cases j
      rename_i h1
      split at j
      ·cases j
      rename_i h2
      split at j
      ·cases j
      rename_i P
      have aa:¬(48<=(c.toNat:Int)/\(c.toNat:Int)<=57):=fun h=>h1 (decide_eq_true h);omega
     clear s t j E F x u z J;rcases A with A|⟨A,K⟩|⟨A,K⟩|A
     ·go_wp2_with (first
       |(go_at_call 43;refine ck4 (m _) v.out.next (fun _ h=>h.box) ?_;clear m a b c2 f;intro C p a b c2 f)
       |(go_at_call 31;refine ck4 (r _) p.out.next (fun _ h=>h.box) ?_;clear r a b c2 f;intro H q a b c2 f)
       |(refine stF 5 29 rfl rfl (W.heap.size+1) (9,(k:Int)) rfl rfl ?_ ?_;exact q.out.flt))
      have n:=qxI q.out bwR (9,(k:Int));refine eoF results155 n _ rfl rfl rfl ⟨?_,n.2⟩;rw[y.out];rfl
     ·go_wp2_with (first
       |(go_at_call 43;refine ck4 (m _) v.out.next (fun _ h=>h.box) ?_;clear m a b c2 f;intro C p a b c2 f)
       |(go_at_call 31;refine ck4 (r _) p.out.next (fun _ h=>h.box) ?_;clear r a b c2 f;intro H q a b c2 f)
       |(refine stF 5 29 rfl rfl (W.heap.size+1) (9,(k:Int)) rfl rfl ?_ ?_;exact q.out.flt))
      have n:=qxI q.out bwR (9,(k:Int));refine eoF results155 n _ rfl rfl rfl ⟨?_,n.2⟩;rw[y.out];rfl
     ·go_wp2_with (first
       |(go_at_call 43;refine ck4 (m _) v.out.next (fun _ h=>h.box) ?_;clear m a b c2 f;intro C p a b c2 f)
       |(go_at_call 31;refine ck4 (r _) p.out.next (fun _ h=>h.box) ?_;clear r a b c2 f;intro H q a b c2 f)
       |(refine stF 5 29 rfl rfl (W.heap.size+1) (9,(k:Int)) rfl rfl ?_ ?_;exact q.out.flt))
      have n:=qxI q.out bwR (9,(k:Int));refine eoF results155 n _ rfl rfl rfl ⟨?_,n.2⟩;rw[y.out];rfl
     go_wp2_with (first
      |(go_at_call 43;refine ck4 (m _) v.out.next (fun _ h=>h.box) ?_;clear m a b c2 f;intro C p a b c2 f)
      |(go_at_call 31;refine ck4 (r _) p.out.next (fun _ h=>h.box) ?_;clear r a b c2 f;intro H q a b c2 f)
      |(refine stF 5 29 rfl rfl (W.heap.size+1) (9,(k:Int)) rfl rfl ?_ ?_;exact q.out.flt))
     have n:=qxI q.out bwR (9,(k:Int));refine eoF results155 n _ rfl rfl rfl ⟨?_,n.2⟩;rw[y.out];rfl
    |some w =>
     rw[j] at s;have M:Hid (qgA bs lim g (k+1) (o*16+w)=R):=s;have N:=qnW j;have L:Hid (o*16+w<=65535/\(1<=g->(o*16+w)*16+15<=65535)/\(2<=g->(o*16+w)*256+255<=65535)/\(3<=g->(o*16+w)*4096+4095<=65535)/\(4<=g->o*16+w=0)):=by
      have h:=O.out;have ab:g+1<=4:=by
       have:=u.out;omega
      refine⟨by omega,by omega,by omega,by omega,by omega⟩
     have P:(48<=(c.toNat:Int)/\(c.toNat:Int)<=57/\(w:Int)=(c.toNat:Int)-48)\/(97<=(c.toNat:Int)/\(c.toNat:Int)<=102/\(w:Int)=(c.toNat:Int)-87)\/(65<=(c.toNat:Int)/\(c.toNat:Int)<=70/\(w:Int)=(c.toNat:Int)-55):=by
      unfold qqh qcQ at j;split at j
      ·rename_i h1
       have:=of_decide_eq_true h1;injection j with j;omega
      split at j
      ·injection j with j;omega
      split at j
      ·injection j with j;omega
      cases j
     clear s t j E r F x z O;rcases P with ⟨A,K,B⟩|⟨A,K,B⟩|⟨A,K,B⟩
     ·have G:Hid _:=B;clear B N
      go_wp2_with (first
       |(go_at_call 43;refine ck4 (m _) v.out.next (fun _ h=>h.box) ?_;clear m a b c2 f;intro C p a b c2 f))
      go_roundg g
      case measure=>omega
      case rel=>exact⟨k+1,o*16+w,by go_num,congrArg (Value.int .i64) (by have:=G.out;omega),⟨by have:=u.out;omega,by have:=u.out;omega⟩,L,p,M,J⟩
     ·have G:Hid _:=B;clear B N
      go_wp2_with (first
       |(go_at_call 43;refine ck4 (m _) v.out.next (fun _ h=>h.box) ?_;clear m a b c2 f;intro C p a b c2 f))
      go_roundg g
      case measure=>omega
      case rel=>exact⟨k+1,o*16+w,by go_num,congrArg (Value.int .i64) (by have:=G.out;omega),⟨by have:=u.out;omega,by have:=u.out;omega⟩,L,p,M,J⟩
     have G:Hid _:=B;clear B N
     go_wp2_with (first
      |(go_at_call 43;refine ck4 (m _) v.out.next (fun _ h=>h.box) ?_;clear m a b c2 f;intro C p a b c2 f))
     go_roundg g
     case measure=>omega
     case rel=>exact⟨k+1,o*16+w,by go_num,congrArg (Value.int .i64) (by have:=G.out;omega),⟨by have:=u.out;omega,by have:=u.out;omega⟩,L,p,M,J⟩

end
end Go.Proofs.YtcokgepdckkjdaaGreatDoor
