import Derived.Lib.AppendIntMem
import Derived.Lib.ItoaLen
import Derived.Test.YtnlnjkggkbbdhaaGreatDoorTq09
set_option maxRecDepth 100000
set_option maxHeartbeats 8000000
set_option linter.all false
namespace Go.Proofs.YtnlnjkggkbbdhaaGreatDoor
open Go.Proofs.Tryz
open Go.Value renaming int->I,slice->G
open Option renaming some->U,none->Y
open Go.IntKind renaming i64->K
open Go renaming World->O
open Go.Obj renaming cells->E
open Go.Proofs.Tryz renaming prog->X
open Go.Value renaming int->A6,pointer->A8,string->A9,tuple->Aa,agg->Ab,bool->Ac
open Go.Ending renaming returned->Af
open Go renaming Value->Al,Calls->Am
variable{P:Program}{fn:Func}{p q u:Tmp}{V V' W w:O}{A args tmps:A3}{N fuel g g2 i:Nat}{ev:Operand->Al}{o oi:Oper}{bs:A1}{d fm k l n:Int}{fr:Nat×Nat}{f:FuncId}{r:Ending}{S:O->Prop}{Q:Exit->Act->O->Prop}{F:Int×Int}{ops:Array Oper}{a:Act}{md:Region.Mode}{listed:Array Bool}{R:Ending->O->Prop}{s:ByteArray}{ks vs:Al}
section
open Go.RowKit
def BX.f1(c:BX):c.arr[1]?=U (G c.ea c.L.length c.ecap):=rfl
def BX.f10(c:BX):c.arr[10]?=U (G c.ba c.B.length c.bcap):=rfl
def D7(c:Int)(n:Nat):Nat:=((if c<0 then -(c+1)else c)%(n:Int)).toNat
def Kh(c:Int)(n:Nat)(h:1<=n):D7 c n<n:=by
 unfold D7;have a:=SM (if c<0 then -(c+1)else c) (show(n:Int)≠0 by omega);have b:=Int.emod_lt_of_pos (if c<0 then -(c+1)else c) (show(0:Int)<n by omega);omega
end
section
open Go.RowKit Go.Lib
def XG(k:Nat)(W:O)(F:Nat->Prop)(x:Al)(d:A2)(hF:∀j,F j->j<W.heap.size)(h:BQ k W F x d)(m:(CC k d).length<=999999999):Am X 39 #[I K 2,x] W λe a=>∃b,e=Af b/\BG a W.heap.size b (CC k d)/\A0 W a:=by
 have c:=XE k W W.heap.size F x d hF h W _ [] Cm (QN W) (by simpa using m);obtain⟨t,y,rfl⟩:=h.iface;go_enter func39,ntmps39
 go_wp2_with(first
  |(go_at_call 64;refine c.mono ?_;rintro e r ⟨q,rfl,f,l⟩;obtain⟨g,i,n,p,o,rfl⟩:=f))
 go_ret;exact⟨_,Z,⟨g,i,_,_,_,Z⟩,l⟩
def iP(k:Nat)(W:O)(F:Nat->Prop)(x:Al)(d:A2)(hF:∀j,F j->j<W.heap.size)(h:BQ k W F x d)(m:(GD k d).length<=999999999):Am X 39 #[I K 3,x] W λe a=>∃b,e=Af b/\BG a W.heap.size b (GD k d)/\A0 W a:=by
 have c:=XF k W W.heap.size F x d hF h W _ [] Cm (QN W) (by simpa using m);obtain⟨t,y,rfl⟩:=h.iface;go_enter func39,ntmps39
 go_wp2_with(first
  |(go_at_call 65;refine c.mono ?_;rintro e r ⟨q,rfl,f,l⟩;obtain⟨g,i,n,p,o,rfl⟩:=f))
 go_ret;exact⟨_,Z,⟨g,i,_,_,_,Z⟩,l⟩
end
section
open Go.RowKit
def YG: String := "internal" ++ (String.singleton (Char.ofNat 47) ++ "strconv.uint64pow10")
def P9(B:Nat)(w:World):Prop:=Lib.TabBelow prog B w YG .u64 Lib.pow10Tab
def se{ty:TypeId}(h:fn.results=#[.tmp u,.cell p ty])(b:A3)(w:O)(g:Nat)(t:TypeId)(cs:A3)(c:Nat×Nat)(d:TypeDesc)(j:b.getD p undef=A8 (U ⟨g,0,Y⟩))(i:w.heap[g]?=U (E cs t c))(k:P.underlying ty=U d)(f:(match d with|.struct _|.array _ _=>true|_=>false)=true)(hi:(P.info? ty).map (·.size)=U cs.size)(v:Al)(l:b.getD u undef=v):(results fn b).run P w=.ok (Aa #[v,.agg cs]) w:=by
 have e:(results fn b).run P w=((asAddr (b.getD p undef)).run P w).andThen λa m=>((loadVar ty a).run P m).andThen λv n=>.ok (Aa #[b.getD u undef,v]) n:=by
  simp only[results,h];simp[Ei,Result.andThen]
 subst l;rw[e,j];simp only[asAddr,Fq,EA,I5 w g t ty cs c d i k f hi]
def BP(bs:A1)(fm d l:Int):A3:=#[A9 ⟨bs.toArray⟩,A6 .i64 fm,A6 .i64 d,A6 .i64 l]
def BH(x:Int×Int):A3:=#[A6 .i64 x.1,A6 .i64 x.2]
def M6(x:Int×Int):(BH x).all (·.oneCell')=true:=by simp[BH,Value.oneCell']
structure Ij(W:World)(A:A3)(N:Nat)(V:World):Prop where
 box:V.heap[W.heap.size]?=some (.cells A 116)
 flt:V.heap[N]?=some (.cells (BH (0,0)) 76)
 below:A0 W V
 lt:W.heap.size<N
def Ij.next(h:Ij W A N V)(hb:A0 V V'):Ij W A N V' :=
 ⟨(hb.block _ (BC h.box)).trans h.box,(hb.block _ (BC h.flt)).trans h.flt,h.below.trans (hb.mono h.below.size),h.lt⟩
def Ij.drew(h:Ij W A N V):Ij W A N V.drew:=⟨h.box,h.flt,h.below.drew,h.lt⟩
def Ob(W:O)(A:A3):Ij W A (W.heap.size+1) ((W.alloc (E A 116)).alloc (E (BH (0,0)) 76)) :=
 ⟨(BT _ _ _ Az).trans (BI _ _),Au (BI (W.alloc (E A 116)) (E (BH (0,0)) 76)),(BN).alloc Az _,J⟩
def Vq(a:TypeId)(x:Operand)(f:o.op=.load a x)(g:Nat)(i:ev x=A8 (U ⟨g,0,Y⟩))(t:TypeId)(cs:A3)(b:Nat×Nat)(d:TypeDesc)(e:W.heap[g]?=U (E cs t b))(h:P.underlying a=U d)(c:(match d with|.struct _|.array _ _=>true|_=>false)=true)(hi:(P.info? a).map (·.size)=U cs.size):(execOp ev o).run P W=.ok (.value (.agg cs)) W:=by
 unfold execOp;simp only[f,i,Instr.loadAt,Instr.sureAddr,Ei,Fq,EA,I5 W g t a cs b d e h c hi]
def I0(x:Int)(h : -9223372036854775808<=x/\x<=9223372036854775807):IntKind.i64.wrap x=x:=(Qf x).trans J
def PE:(prog.info? 116).map (·.size)=U (BP bs fm d l).size:=by show _=U 4;kernel_rfl
def Oc(r:A5 Unit):Al:=match r with
 |.ok (_,q)=>Aa #[A6 .i64 q,.agg (BH (0,0))]
 |.error f=>Aa #[A6 .i64 0,.agg (BH f)]
def Gu(h:Ij W A N V)(hb:A0 V V')(x:Int×Int):(V'.setRow N (BH x)).heap[N]?=U (E (BH x) 76)/\A0 W (V'.setRow N (BH x)) :=
 ⟨Ca _ _ _ _ _ _ (h.next hb).flt,CF (h.next hb).below (Nat.le_of_lt h.lt) _⟩
def J5(x:Int×Int):(prog.info? 76).map (·.size)=U (BH x).size:=bx
def CL{t:TypeId}(h:V.heap[g]?=U (E (BP bs fm d l) t fr)):V.cell? ⟨g,0,Y⟩=(#[A9 ⟨bs.toArray⟩,I K fm,I K d,I K l]:A3)[0]?/\V.cell? ⟨g,1,Y⟩=(#[A9 ⟨bs.toArray⟩,I K fm,I K d,I K l]:A3)[1]?/\V.cell? ⟨g,2,Y⟩=(#[A9 ⟨bs.toArray⟩,I K fm,I K d,I K l]:A3)[2]?/\V.cell? ⟨g,3,Y⟩=(#[A9 ⟨bs.toArray⟩,I K fm,I K d,I K l]:A3)[3]? :=
 ⟨BB h 0,BB h 1,BB h 2,BB h 3⟩
def ck{Q:Ending->O->Prop}(c:Am P f args V λe a=>e=r/\A0 V a)(b:∀{V':O},A0 V V'->S V')(k:∀w,Hid (S w)->Q r w):Am P f args V Q :=
 c.mono λ_ _ h=>h.1▸k _ (b h.2)
def G3{Q:Ending->O->Prop}(c:Am P f args V λe a=>e=r/\A0 V a)(b:∀{V':O},A0 V V'->S V')(k:∀w,A0 V w->Hid (S w)->Q r w):Am P f args V Q :=
 c.mono λ_ _ h=>h.1▸k _ h.2 (b h.2)
def CT{Q:Ending->O->Prop}{t:TypeId}(c:Am P f args V λe a=>e=r/\A0 V a)(b:∀{V':O},A0 V V'->S V')(hb:∀w,S w->w.heap[g]?=U (E (BP bs fm d l) t fr))(k:∀w,Hid (S w)->w.cell? ⟨g,0,Y⟩=(#[A9 ⟨bs.toArray⟩,I K fm,I K d,I K l]:A3)[0]?->w.cell? ⟨g,1,Y⟩=(#[A9 ⟨bs.toArray⟩,I K fm,I K d,I K l]:A3)[1]?->w.cell? ⟨g,2,Y⟩=(#[A9 ⟨bs.toArray⟩,I K fm,I K d,I K l]:A3)[2]?->w.cell? ⟨g,3,Y⟩=(#[A9 ⟨bs.toArray⟩,I K fm,I K d,I K l]:A3)[3]?->Q r w):Am P f args V Q :=
 ck c b λw h=>let z:=CL (hb w h);k w h z.1 z.2.1 z.2.2.1 z.2.2.2
def J6{b:Bool}(fm d:Int)(h:Cy bs l i=b)(V:O):Am X 68 #[Ab #[A9 ⟨bs.toArray⟩,I K fm,I K d,I K l],I K i] V λe a=>e=Af (Ac b)/\A0 V a:=h▸RR V bs fm d l i
def PF{en:Int}{x:Int×Int}(fm d:Int)(h:CS bs l i en=x)(V:O):Am X 47 #[Ab #[A9 ⟨bs.toArray⟩,I K fm,I K d,I K l],I K i,I K en] V λe a=>e=Af (.agg (BH x))/\A0 V a:=h▸N6 V bs fm d l i en
def Od(bs:A1)(fm d l:Int)(V:O)(k:Nat):Am X 68 #[Ab #[A9 ⟨bs.toArray⟩,I K fm,I K d,I K l],I K k] V λe a=>e=Af (Ac (Cy bs l k))/\A0 V a:=RR V bs fm d l k
def Oe(bs:A1)(fm d l:Int)(V:O)(k:Nat)(a:Int):Am X 47 #[Ab #[A9 ⟨bs.toArray⟩,I K fm,I K d,I K l],I K k,I K a] V λe b=>e=Af (.agg (BH (CS bs l k a)))/\A0 V b:=N6 V bs fm d l k a
def En{rest:List Oper}(x y:Nat)(c:o.guard=Y)(d:o.op=.store 76 (.tmp x) (.tmp y))(g:Nat)(F:Int×Int)(e:a.eval (.tmp x)=A8 (U ⟨g,0,Y⟩))(f:a.eval (.tmp y)=.agg (BH F))(b:w.heap[g]?=U (E (BH (0,0)) 76))(h:wpList X ops Q rest (a.put o.dst undef) (w.setRow g (BH F))):wpList X ops Q (o::rest) a w :=
 Co c _ _ _ d g _ e f _ _ b (J5 _) rfl (M6 _) h
def tk(i d:Nat)(v:Al)(hi:ops[i]?=U oi)(b:(Region.noSelect ops&&Region.free md ops listed i&&(Region.ready md ops listed).contains i&&oi.dst==U d&&Region.wanted oi (yielded ops a.tmps))=true)(f:∀c a w,Q (.panic c) (a.put (U d) v) w->Q (.panic c) a w)(j:∀e,S e->(execOp a.eval oi).run P e=.ok (.value v) e)(g:S w)(h:wpAnyH P md ops Q S fuel (listed.setIfInBounds i true) (a.put (U d) v) w):wpAnyH P md ops Q S (fuel+1) listed a w:=by
 simp only[Dw]at b;exact OQ (U d) hi b.1.1.1.1 b.1.1.1.2 b.1.1.2 f ke0 (.inl ⟨b.2,j⟩) g h
def sf(i d:Nat)(v:Al)(n:(Region.noSelect ops&&Region.free md ops listed i&&(Region.ready md ops listed).contains i,ops[i]?.map λo=>(o.dst,Region.wanted o (yielded ops a.tmps),λb=>(execOp a.eval o).run P b))=(true,U (U d,true,λb=>.ok (.value v) b)))(l:∀c a w,Q (.panic c) (a.put (U d) v) w->Q (.panic c) a w)(m:S w)(h:wpAnyH P md ops Q S fuel (listed.setIfInBounds i true) (a.put (U d) v) w):wpAnyH P md ops Q S (fuel+1) listed a w:=by
 obtain⟨e,j⟩:=GT n;obtain⟨o,p,f⟩:=Q5.1 j;obtain⟨f,g⟩:=GT f;obtain⟨g,k⟩:=GT g;simp only[Dw]at e;exact OQ (U d) p e.1.1 e.1.2 e.2 l f (.inl ⟨g,λb _=>congrFun k b⟩) m h
def G4(i d:Nat)(hi:ops[i]?=U oi)(b:(Region.noSelect ops&&Region.free md ops listed i&&(Region.ready md ops listed).contains i&&oi.dst==U d && !Region.wanted oi (yielded ops a.tmps))=true)(e:∀c a w,Q (.panic c) (a.put (U d) undef) w->Q (.panic c) a w)(f:S w)(h:wpAnyH P md ops Q S fuel (listed.setIfInBounds i true) (a.put (U d) undef) w):wpAnyH P md ops Q S (fuel+1) listed a w:=by
 simp only[Dw,Qe]at b;exact OQ (U d) hi b.1.1.1.1 b.1.1.1.2 b.1.1.2 e ke0 (.inr ⟨b.2,Z⟩) f h
def yF(x:Nat)(a:W.heap[g]?=U (E (BH F) 76))(b:o.op=.load 76 (.tmp x))(c:ev (.tmp x)=A8 (U ⟨g,0,Y⟩)):(execOp ev o).run X W=.ok (.value (.agg (BH F))) W :=
 Vq _ _ b g c _ _ _ _ a underlying76 rfl (J5 _)
def yI(x:Nat)(a:W.heap[g]?=U (E (BP bs fm d l) 116))(b:o.op=.load 116 (.tmp x))(c:ev (.tmp x)=A8 (U ⟨g,0,Y⟩)):(execOp ev o).run X W=.ok (.value (Ab #[A9 ⟨bs.toArray⟩,I K fm,I K d,I K l])) W :=
 Vq _ _ b g c _ _ _ _ a underlying116 rfl PE
def sj(h:fn.results=#[.tmp u,.cell p 76])(a:w.heap[g]?=U (E (BH F) 76))(v:Al)(b:tmps.getD p undef=A8 (U ⟨g,0,Y⟩))(c:tmps.getD u undef=v):(results fn tmps).run X w=.ok (Aa #[v,.agg (BH F)]) w :=
 se h _ _ g _ _ _ _ b a underlying76 rfl (J5 _) v c
def K3{A:Act}{B:Prop}(h:fn.results=#[.tmp u,.cell p 76])(b:w.heap[g]?=U (E (BH F) 76)/\B)(v:Al)(c:A.tmps.getD p undef=A8 (U ⟨g,0,Y⟩))(d:A.tmps.getD u undef=v)(a:A.defers=[])(k:R (Af (Aa #[v,.agg (BH F)])) w):bodyPost X fn R .ret A w:=Cc (sj h b.1 v c d) a k
def RU(W:O)(bs:A1)(fm d l:Int):Hid (Ij W (BP bs fm d l) (W.heap.size+1) ((W.alloc (E #[A9 ⟨bs.toArray⟩,I K fm,I K d,I K l] 116)).alloc (E #[I K 0,I K 0] 76))):=Ob W _
def PG{c:UInt8}{v:Nat}(a:bs[i]?=U c)(b:c.toNat=v)(V:O):(Instr.index 9 (A9 ⟨bs.toArray⟩) (I K (i:Int))).run X V=.ok (I .u8 v) V:=b▸DI bs i c a V
def RV(W:O)(bs:A1)(fm d l lim:Int)(i:Nat)(w:A1)(hw:w.length<=100)(hl:Lm bs l lim)(hi:C1 bs lim i)(hb:bs.length<=281474976710656):Am X 106 #[.agg (BP bs fm d l),I K i,A9 ⟨w.toArray⟩] W λe W'=>e=Af (Oc (Ci bs lim w i))/\A0 W W':=by
 have ai:=M5 w;obtain⟨R,C⟩:∃R,Hid (Ci bs lim w i=R):=⟨_,show _=_ from rfl⟩
 rw[C.out];have ag:=hi.1;have B:=T hl;have A:=T hi;have cH:=Od bs fm d l;have D:∀(V:O) (k:Nat) (en:Int),Am X 47 #[Ab #[A9 ⟨bs.toArray⟩,I K fm,I K d,I K l],I K k,I K en] V λe W'=>e=Af (bw (CS bs l k en))/\A0 V W':=λV k en=>N6 V bs fm d l k en;clear hl hi;unfold BP;go_enter func106,ntmps106;go_wp2
 go_loopg[8] w.length (λg ae wr=>∃k:Nat,ae=I K k/\Hid (k+g=w.length)/\Hid (Ij W (BP bs fm d l) (W.heap.size+1) wr)/\Hid (Ci bs lim (w.drop k) (i+k)=R)/\Hid (C1 bs lim (i+k)))
 case atStart=>exact⟨0,rfl,AD,Ob _ _,C,A⟩
 case round =>
  clear C A;obtain⟨k,rfl,H,r,C,A⟩:=hrel;have ah:=A.1;obtain⟨z,c1,c2,c3⟩:=CL r.box;have p:=λV=>cH V (i+k);have s:((i+k:Nat):Int)=(i:Int)+(k:Int):=J
  rw[s]at p
  cases gk with
  |zero =>
   have y:Hid (R=.ok ((),i+w.length)):=by
    show _=_;have h1:=H.out;rw[<-C.out,K9 J,Ci,show k=w.length by omega]
   have P:¬(k:Int)<(w.length:Int):=Ao H.out
   have u:=Gu r Cm (0,0);clear C cH p D
   go_wp2_with(first
    |(refine Co Z 76 _ _ Z (W.heap.size+1) (BH (0,0)) Z Z 76 (BH (0,0)) r.flt (J5 _) Z (M6 _) ?_))
   refine K3 results106 u _ Z Z Z ⟨?_,u.2⟩;rw[y.out];simp[Oc]
  |succ g =>
   have N:k<w.length:=Ao H.out
   have P:(k:Int)<(w.length:Int):=J
   obtain⟨x,hx⟩:∃x,x=w[k]:=⟨_,rfl⟩
   have h:w[k]?=U x:=by rw[hx];exact C6 N
   have aa:=λV=>DI w k x h V;have m:=C.out;rw[G7 N,<-hx,Ci]at m;clear C hx cH;have b:(λV:O=>V.heap[W.heap.size]?=U (E (BP bs fm d l) 116)) {wr with drawn:=wr.drawn+1}:=r.box
   cases n:bs[i+k]? with
   |none =>
    rw[n]at m;simp only[]at m;rw[K2 n]at p;have q:=λV=>D V (i+k) 9;rw[Lu A.1 n,s]at q;have y:Hid (R=.error (9,(i:Int)+(k:Int))):=by show _=_;rw[<-m,s]
    clear m n D s aa h;go_wp2;refine Ec (S:=λV=>V.heap[W.heap.size]?=U (E (BP bs fm d l) 116)) M ?_;refine BL 0 15 (.agg (BP bs fm d l)) Z (λj f=>yI 3 f Z Z) b ?_;refine BE 1 16 (I K i) b ?_;refine BE 2 17 (I K k) b ?_;refine BL 3 18 (I K ((i:Int)+(k:Int))) Z (λj f=>?y3) b ?_
    case y3=>(go_simp;exact I0 _ J)
    refine C9 4 (λac t=>?_);go_simp;refine(p _).mono ?_;rintro e w2 ⟨rfl,o⟩;simp only[];have a:=(o.block _ (BC b)).trans b;refine t.out _ _ a (λ_=>?_);clear t;refine BE 5 20 (Ac true) a ?_;refine BE 6 21 (Ac true) a ?_;refine G4 7 22 Z M EV a ?_;refine G4 8 23 Z M EV a ?_;refine G4 9 24 Z M EV a ?_;refine G4 10 25 Z M EV a ?_;refine G4 11 26 Z M EV a ?_;refine G4 12 27 Z M EV a ?_;refine G4 13 28 Z M EV a ?_;refine G4 14 29 Z M EV a ?_;refine G4 15 30 Z M EV a ?_;refine G4 16 31 Z M EV a ?_;refine BE 17 32 (Ac true) a ?_;refine Cv ?_;go_simp;clear b p H N P B z c1 c2 c3
    go_wp2_with(first
     |(go_at_call 47;refine(q _).mono ?_;clear q;rintro e w3 ⟨rfl,F⟩)
     |(refine Co rfl 76 _ _ rfl (W.heap.size+1) (BH (9,(i:Int)+(k:Int))) rfl rfl 76 (BH (0,0)) ((r.drew.next o).next F).flt (J5 _) rfl (M6 _) ?_)
     |(refine C8 Z 116 _ Z W.heap.size Z _ _ _ _ a underlying116 Z PE ?_))
    have u:=Gu (r.drew.next o) F (9,(i:Int)+(k:Int));refine K3 results106 u _ Z Z Z ⟨?_,u.2⟩;rw[y.out];rfl
   |some c =>
    rw[n]at m;simp only[]at m;have ab:=λV=>DI bs (i+k) c n V;rw[s]at ab;by_cases v:((i+k:Nat):Int)=lim
    ·rw[BA v]at m;rw[Jw B n v]at p;have q:=λV=>D V (i+k) 9;rw[IC B n v,s]at q;have y:Hid (R=.error (8,(i:Int)+(k:Int))):=by show _=_;rw[<-m,s]
     clear m n v D s aa h ab;go_wp2;refine Ec (S:=λV=>V.heap[W.heap.size]?=U (E (BP bs fm d l) 116)) M ?_;refine BL 0 15 (.agg (BP bs fm d l)) Z (λj f=>yI 3 f Z Z) b ?_;refine BE 1 16 (I K i) b ?_;refine BE 2 17 (I K k) b ?_;refine BL 3 18 (I K ((i:Int)+(k:Int))) Z (λj f=>?y3) b ?_
     case y3=>(go_simp;exact I0 _ J)
     refine C9 4 (λac t=>?_);go_simp;refine(p _).mono ?_;rintro e w2 ⟨rfl,o⟩;simp only[];have a:=(o.block _ (BC b)).trans b;refine t.out _ _ a (λ_=>?_);clear t;refine BE 5 20 (Ac true) a ?_;refine BE 6 21 (Ac true) a ?_;refine G4 7 22 Z M EV a ?_;refine G4 8 23 Z M EV a ?_;refine G4 9 24 Z M EV a ?_;refine G4 10 25 Z M EV a ?_;refine G4 11 26 Z M EV a ?_;refine G4 12 27 Z M EV a ?_;refine G4 13 28 Z M EV a ?_;refine G4 14 29 Z M EV a ?_;refine G4 15 30 Z M EV a ?_;refine G4 16 31 Z M EV a ?_;refine BE 17 32 (Ac true) a ?_;refine Cv ?_;go_simp;clear b p H N P B z c1 c2 c3
     go_wp2_with(first
      |(go_at_call 47;refine(q _).mono ?_;clear q;rintro e w3 ⟨rfl,F⟩)
      |(refine Co rfl 76 _ _ rfl (W.heap.size+1) (BH (8,(i:Int)+(k:Int))) rfl rfl 76 (BH (0,0)) ((r.drew.next o).next F).flt (J5 _) rfl (M6 _) ?_)
      |(refine C8 Z 116 _ Z W.heap.size Z _ _ _ _ a underlying116 Z PE ?_))
     have u:=Gu (r.drew.next o) F (8,(i:Int)+(k:Int));refine K3 results106 u _ Z Z Z ⟨?_,u.2⟩;rw[y.out];rfl
    rw[Bz v]at m;rw[Lv B A n v]at p;have q:=λV=>D V (i+k) 9;rw[J4 B A n v,s]at q;have HN:Hid (C1 bs lim (i+(k+1))):=Fp A n v;have af:=Cf n;by_cases L:c=x
    ·rw[BA L]at m;have Q:((c.toNat:Int)==(x.toNat:Int))=true:=by rw[L];simp
     have y:Hid (Ci bs lim (w.drop (k+1)) (i+(k+1))=R):=m;have HG:Hid ((k+1)+g=w.length):=Ap H.out
     clear m n v D q s h L;go_wp2;refine Ec (S:=λV=>V.heap[W.heap.size]?=U (E (BP bs fm d l) 116)) M ?_;refine BL 0 15 (.agg (BP bs fm d l)) Z (λj f=>yI 3 f Z Z) b ?_;refine BE 1 16 (I K i) b ?_;refine BE 2 17 (I K k) b ?_;refine BL 3 18 (I K ((i:Int)+(k:Int))) Z (λj f=>?y3) b ?_
     case y3=>(go_simp;exact I0 _ J)
     refine C9 4 (λac t=>?_);go_simp;refine(p _).mono ?_;rintro e w2 ⟨rfl,o⟩;simp only[];have a:=(o.block _ (BC b)).trans b;refine t.out _ _ a (λ_=>?_);clear t;refine BE 5 20 (Ac false) a ?_;refine BE 6 21 (Ac false) a ?_;refine BE 7 22 (A8 (U ⟨W.heap.size,0,Y⟩)) a ?_;refine BL 8 23 (A9 ⟨bs.toArray⟩) Z (λj f=>?y8) a ?_
     case y8=>(have h2:=BB f 0;unfold BP at h2;go_simp)
     refine BE 9 24 (I K i) a ?_;refine BE 10 25 (I K k) a ?_;refine BL 11 26 (I K ((i:Int)+(k:Int))) Z (λj f=>?y11) a ?_
     case y11=>(go_simp;exact I0 _ J)
     refine BL 12 27 (I .u8 c.toNat) Z (λj f=>?y12) a ?_
     case y12=>(go_simp)
     refine BE 13 28 (A9 ⟨w.toArray⟩) a ?_;refine BE 14 29 (I K k) a ?_;refine BL 15 30 (I .u8 x.toNat) Z (λj f=>?y15) a ?_
     case y15=>(go_simp)
     refine BL 16 31 (Ac (false)) Z (λj f=>?y16) a ?_
     case y16=>(go_simp;simpa using Q)
     refine BE 17 32 (Ac (false)) a ?_;refine Cv ?_;go_simp;clear b p H P B z c1 c2 c3 ab aa Q;go_wp2;go_roundg g
     case measure=>omega
     case rel=>exact⟨k+1,AE,HG,r.drew.next o,y,HN⟩
    rw[Bz L]at m;have Q:((c.toNat:Int)==(x.toNat:Int))=false:=by
     have:¬c.toNat=x.toNat:=λad=>L (LH.1 ad);simp;omega
    have y:Hid (R=.error (9,(i:Int)+(k:Int))):=by show _=_;rw[<-m];simp
    clear m n v D s h L HN;go_wp2;refine Ec (S:=λV=>V.heap[W.heap.size]?=U (E (BP bs fm d l) 116)) M ?_;refine BL 0 15 (.agg (BP bs fm d l)) Z (λj f=>yI 3 f Z Z) b ?_;refine BE 1 16 (I K i) b ?_;refine BE 2 17 (I K k) b ?_;refine BL 3 18 (I K ((i:Int)+(k:Int))) Z (λj f=>?y3) b ?_
    case y3=>(go_simp;exact I0 _ J)
    refine C9 4 (λac t=>?_);go_simp;refine(p _).mono ?_;rintro e w2 ⟨rfl,o⟩;simp only[];have a:=(o.block _ (BC b)).trans b;refine t.out _ _ a (λ_=>?_);clear t;refine BE 5 20 (Ac false) a ?_;refine BE 6 21 (Ac false) a ?_;refine BE 7 22 (A8 (U ⟨W.heap.size,0,Y⟩)) a ?_;refine BL 8 23 (A9 ⟨bs.toArray⟩) Z (λj f=>?y8) a ?_
    case y8=>(have h2:=BB f 0;unfold BP at h2;go_simp)
    refine BE 9 24 (I K i) a ?_;refine BE 10 25 (I K k) a ?_;refine BL 11 26 (I K ((i:Int)+(k:Int))) Z (λj f=>?y11) a ?_
    case y11=>(go_simp;exact I0 _ J)
    refine BL 12 27 (I .u8 c.toNat) Z (λj f=>?y12) a ?_
    case y12=>(go_simp)
    refine BE 13 28 (A9 ⟨w.toArray⟩) a ?_;refine BE 14 29 (I K k) a ?_;refine BL 15 30 (I .u8 x.toNat) Z (λj f=>?y15) a ?_
    case y15=>(go_simp)
    refine BL 16 31 (Ac (true)) Z (λj f=>?y16) a ?_
    case y16=>(go_simp;simpa using Q)
    refine BE 17 32 (Ac (true)) a ?_;refine Cv ?_;go_simp;clear ab aa Q;clear b p H N P B z c1 c2 c3
    go_wp2_with(first
     |(go_at_call 47;refine(q _).mono ?_;clear q;rintro e w3 ⟨rfl,F⟩)
     |(refine Co rfl 76 _ _ rfl (W.heap.size+1) (BH (9,(i:Int)+(k:Int))) rfl rfl 76 (BH (0,0)) ((r.drew.next o).next F).flt (J5 _) rfl (M6 _) ?_)
     |(refine C8 Z 116 _ Z W.heap.size Z _ _ _ _ a underlying116 Z PE ?_))
    have u:=Gu (r.drew.next o) F (9,(i:Int)+(k:Int));refine K3 results106 u _ Z Z Z ⟨?_,u.2⟩;rw[y.out];rfl
def tZ{ty ty2:TypeId}(h:fn.results=#[.cell p ty,.tmp u,.cell q ty2])(b:A3)(w:O)(g i:Nat)(t l:TypeId)(cs c:A3)(j k:Nat×Nat)(d f:TypeDesc)(y:b.getD p undef=A8 (U ⟨g,0,Y⟩))(r:w.heap[g]?=U (E cs t j))(A:P.underlying ty=U d)(n:(match d with|.struct _|.array _ _=>true|_=>false)=true)(hi:(P.info? ty).map (·.size)=U cs.size)(z:b.getD q undef=A8 (U ⟨i,0,Y⟩))(s:w.heap[i]?=U (E c l k))(B:P.underlying ty2=U f)(o:(match f with|.struct _|.array _ _=>true|_=>false)=true)(x:(P.info? ty2).map (·.size)=U c.size)(v:Al)(C:b.getD u undef=v):(results fn b).run P w=.ok (Aa #[.agg cs,v,.agg c]) w:=by
 have e:(results fn b).run P w=((asAddr (b.getD p undef)).run P w).andThen λa F=>((loadVar ty a).run P F).andThen λv H=>((asAddr (b.getD q undef)).run P H).andThen λm L=>((loadVar ty2 m).run P L).andThen λD N=>.ok (Aa #[v,b.getD u undef,D]) N:=by
  simp only[results,h];simp[Ei,Result.andThen]
 subst C;rw[e,y,z];simp only[asAddr,Fq,EA,I5 w g t ty cs j d r A n hi,I5 w i l ty2 c k f s B o x]
def BV:Al:=.slice none 0 0
def BJ(kind n:Int)(s:ByteArray)(ks vs:Al):A3:=#[A6 .i64 kind,A6 .i64 n,.string s,ks,vs]
def BZ:A3:=BJ 0 0 ⟨#[]⟩ BV BV
def Nb:(prog.info? 74).map (·.size)=U 5:=M
def K8(k n:Int)(s:ByteArray)(ks a:Al):(prog.info? 74).map (·.size)=U (BJ k n s ks a).size:=Nb
structure Hi(W:World)(A:A3)(V:World):Prop where
 box:V.heap[W.heap.size]?=some (.cells A 116)
 th:V.heap[W.heap.size+1]?=some (.cells BZ 74)
 flt:V.heap[W.heap.size+2]?=some (.cells (BH (0,0)) 76)
 below:A0 W V
def Hi.next(h:Hi W A V)(hb:A0 V V'):Hi W A V' :=
 ⟨(hb.block _ (BC h.box)).trans h.box,(hb.block _ (BC h.th)).trans h.th,(hb.block _ (BC h.flt)).trans h.flt,h.below.trans (hb.mono h.below.size)⟩
def Hi.drew(h:Hi W A V):Hi W A V.drew:=⟨h.box,h.th,h.flt,h.below.drew⟩
def dm(W:O)(A:A3):Hi W A (((W.alloc (E A 116)).alloc (E BZ 74)).alloc (E (BH (0,0)) 76)) :=
 ⟨((BT _ _ _ Ax).trans (BT _ _ _ Az)).trans (BI _ _),(BT _ _ _ Az).trans (Au (BI (W.alloc (E A 116)) (E BZ 74))),Au (BI ((W.alloc (E A 116)).alloc (E BZ 74)) (E (BH (0,0)) 76)),((BN).alloc Az _).alloc Ax _⟩
def EP(h:Hi W A V)(hb:A0 V V')(y:A3)(x:Int×Int):((V'.setRow (W.heap.size+1) y).setRow (W.heap.size+2) (BH x)).heap[W.heap.size+1]?=U (E y 74)/\((V'.setRow (W.heap.size+1) y).setRow (W.heap.size+2) (BH x)).heap[W.heap.size+2]?=U (E (BH x) 76)/\A0 W ((V'.setRow (W.heap.size+1) y).setRow (W.heap.size+2) (BH x)):=by
 have a:=h.next hb
 refine⟨?_,?_,CF (CF a.below J _) J _⟩
 ·rw[CQ _ _ _ _ J];exact Ca _ _ _ _ _ _ a.th
 exact Ca _ _ _ _ _ _ (sx J a.flt)
def G6(h:Hi W A V)(hb:A0 V V')(y:A3):(V'.setRow (W.heap.size+1) y).heap[W.heap.size+2]?=U (E (BH (0,0)) 76):=sx J (h.next hb).flt
def VN(k n:Int)(s:ByteArray)(a b:A4)(i j p q:Nat):(BJ k n s (G a i j) (G b p q)).all (·.oneCell')=true:=by simp[BJ,Value.oneCell']
def dt(r:A5 Int)(e:Ending):Prop:=match r with
 |.ok (z,q)=>e=Af (Aa #[.agg (BJ 3 z ⟨#[]⟩ BV BV),A6 .i64 q,.agg (BH (0,0))])
 |.error f=>e=Af (Aa #[.agg BZ,A6 .i64 0,.agg (BH f)])
def u6(num d:Nat)(a:d<=9):(-(num:Int)<(-9223372036854775808+(d:Int)).tdiv 10)↔(9223372036854775808-d)/10<num:=by
 have e:(-9223372036854775808+(d:Int)) = -((9223372036854775808-d:Nat):Int):=J
 rw[e,Int.neg_tdiv,show((10:Int))=((10:Nat):Int)from rfl,<-Int.ofNat_tdiv];omega
def Sa(T:A3):Prop:=T.size=5/\T.all (·.oneCell')=true
def thg{a b:A4}{j p q:Nat}:Sa (BJ k n s (G a i j) (G b p q)):=⟨rfl,VN _ _ _ _ _ _ _ _ _⟩
def PQ{rest:List Oper}(x y:Nat)(d:o.guard=Y)(e:o.op=.store 74 (.tmp x) (.tmp y))(g:Nat)(T:A3)(f:a.eval (.tmp x)=A8 (U ⟨g,0,Y⟩))(i:a.eval (.tmp y)=.agg T)(c:w.heap[g]?=U (E BZ 74))(b:Sa T)(h:wpList X ops Q rest (a.put o.dst undef) (w.setRow g T)):wpList X ops Q (o::rest) a w :=
 Co d _ _ _ e g _ f i _ _ c (by rw[b.1];exact Nb) (by rw[b.1];rfl) b.2 h
def u7(h:fn.results=#[.cell p 74,.tmp u,.cell q 76])(a:w.heap[g]?=U (E (BJ k n s ks vs) 74))(b:w.heap[g2]?=U (E (BH F) 76))(v:Al)(c:tmps.getD p undef=A8 (U ⟨g,0,Y⟩))(d:tmps.getD q undef=A8 (U ⟨g2,0,Y⟩))(e:tmps.getD u undef=v):(results fn tmps).run X w=.ok (Aa #[.agg (BJ k n s ks vs),v,.agg (BH F)]) w :=
 tZ h _ _ g g2 _ _ _ _ _ _ _ _ c a underlying74 rfl (K8 _ _ _ _ _) d b underlying76 rfl (J5 _) v e
def EQ{A:Act}{B:Prop}(h:fn.results=#[.cell p 74,.tmp u,.cell q 76])(a:w.heap[g]?=U (E (BJ k n s ks vs) 74)/\w.heap[g2]?=U (E (BH F) 76)/\B)(v:Al)(c:A.tmps.getD p undef=A8 (U ⟨g,0,Y⟩))(d:A.tmps.getD q undef=A8 (U ⟨g2,0,Y⟩))(e:A.tmps.getD u undef=v)(b:A.defers=[])(f:R (Af (Aa #[.agg (BJ k n s ks vs),v,.agg (BH F)])) w):bodyPost X fn R .ret A w:=Cc (u7 h a.1 a.2.1 v c d e) b f
def Mb(W:O)(bs:A1)(fm d l:Int):Hid (Hi W (BP bs fm d l) (((W.alloc (E #[A9 ⟨bs.toArray⟩,I K fm,I K d,I K l] 116)).alloc (E BZ 74)).alloc (E (BH (0,0)) 76))):=dm W _
def yT(x:Nat)(a:W.heap[g]?=U (E (BJ k n s ks vs) 74))(b:o.op=.load 74 (.tmp x))(c:ev (.tmp x)=A8 (U ⟨g,0,Y⟩)):(execOp ev o).run X W=.ok (.value (.agg (BJ k n s ks vs))) W :=
 Vq _ _ b g c _ _ _ _ a underlying74 rfl (K8 _ _ _ _ _)
def D6(l:A1):Al:=A9 ⟨l.toArray⟩
def VU(W:O)(F:Nat->Prop)(v:Al)(ks:List A1)(s:A1)(h:Dj W 9 1 F v ks.length (ks.map D6))(V:ks.length<=200000000):Am X 142 #[v,A9 ⟨s.toArray⟩] W λe r=>e=Af (Ac (decide (s∈ks)))/\r=W:=by
 obtain⟨R,f⟩:∃R,Hid (decide (s∈ks)=R):=⟨_,show _=_ from rfl⟩
 rw[f.out];obtain⟨a,i,rfl,p⟩:∃a i,v=G a ks.length i/\Hid (∀(j:Nat) (x:A1),ks[j]?=U x->∃g,a=U ⟨g,0,Y⟩/\W.cell? ⟨g,j,Y⟩=U (D6 x)):=by
  obtain⟨H,w⟩:=h;rcases w with⟨rfl,u⟩|⟨g,i,t,rfl,Q,c,L,N,P,y⟩
  ·refine⟨Y,0,by rw[u],λj x b=>?_⟩;have:=Cf b;omega
  refine⟨_,i,Z,λj x b=>⟨g,Z,?_⟩⟩;rw[BB c j];have S:=Cf b;have n:(t.toList.take (ks.length*1))[j]?=U (D6 x):=by rw[y,Jc,b];rfl
  rw[KM J]at n;simpa using n
 go_enter func142,ntmps142;go_wp2
 go_loopg[5] ks.length (λg z wr=>wr=W/\∃k:Nat,z=I K k/\Hid (k+g=ks.length)/\Hid (decide (s∈ks.drop k)=R))
 case atStart=>exact⟨rfl,0,rfl,AD,f⟩
 case round =>
  obtain⟨rfl,k,rfl,c,f⟩:=hrel;have d:=f.out
  cases gk with
  |zero =>
   rw[K9 (Ao c.out)]at d;have m:Hid (R=false):=by show _=_;rw[<-d];simp
   have B:¬(k:Int)<(ks.length:Int):=Ao c.out
   go_wp2;go_ret;rw[m.out];exact⟨Z,Z⟩
  |succ g =>
   have o:k<ks.length:=Ao c.out
   have B:(k:Int)<(ks.length:Int):=J
   obtain⟨x,b⟩:∃x,ks[k]?=U x:=⟨_,C6 o⟩
   obtain⟨D,rfl,A⟩:=p.out k x b;unfold D6 at A;rw[G7 o,(Ja.1 b).2]at d;by_cases l:x=s
   ·have m:Hid (R=true):=by show _=_;rw[<-d,l];simp
    have C:(x==s)=true:=by rw[l];exact beq_self_eq_true s
    go_wp2;go_ret;rw[m.out];exact⟨Z,Z⟩
   have q:Hid (decide (s∈ks.drop (k+1))=R):=by
    show _=_;rw[<-d];simp[Ho,Ne.symm l]
   have C:(x==s)=false:=by simpa using l
   go_wp2;go_roundg g
   case measure=>omega
   case rel=>exact⟨rfl,k+1,AE,Ap c.out,q⟩
end
end Go.Proofs.YtnlnjkggkbbdhaaGreatDoor
