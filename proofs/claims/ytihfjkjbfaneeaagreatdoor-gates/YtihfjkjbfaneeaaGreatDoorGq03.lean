import Derived.Laws.IdiomStrings
import Derived.Maps.OwnSet
import Derived.RangeFuncBound
import Derived.RangeFuncCalls
import Derived.RangeFuncLeaves
import Derived.Shelf.Abstract
import Derived.OwnWalkIn
import Derived.TacticsInMore
import Derived.LoopNIn
import Derived.LoopIn
import Derived.Sort.LoopGhostIn
import Derived.Lib.Strings
import Derived.Lib.IndexBytes
import Derived.Lib.AppendIntMem
import Derived.Lib.ItoaLen
import Derived.Test.YtihfjkjbfaneeaaGreatDoorGq02
set_option maxRecDepth 100000
set_option maxHeartbeats 8000000
set_option linter.all false
namespace Go.Proofs.YtihfjkjbfaneeaaGreatDoor
open Go.Proofs.Tryz
open _root_ renaming Nat->I,Int->J
open Go.Value renaming int->C,slice->T
open _root_.List renaming length->O
open Go.World renaming heap->U
open _root_.Array renaming size->K
open Go.IntKind renaming i64->Y
open Go.RowKit renaming Hid->D
open Go renaming World->X
open Option renaming some->H
open Go.Obj renaming cells->M
open Go.Value renaming slice->AX,int->Ab,slice->Ac,string->Ae,tuple->Af,agg->Ag,bool->Ah,iface->Ai,ownBlock->Ax
open Go.Obj renaming cells->Aj
open Go.Ending renaming returned->Ak
open Go.IntKind renaming i64->Al,u8->Am
open Option renaming some->An,none->Ao
open Go renaming DataW->AM,TypeId->AN,undef->AO,World->Ap,Value->Aq,Calls->Ar
open Go.Proofs.Tryz renaming prog->As
open _root_.List renaming length->At,toArray->Aw
open Go.World renaming setCell->AB,cell?->AC,setRow->AD,heap->Av,alloc->Az
open Go.RowKit.Hid renaming out->AE
open Or renaming inl->AF,inr->AG
open _root_ renaming Nat->AH,Int->AI,List->AJ,Bool->AK,Except->AS,ByteArray->AT,UInt8->AU
open _root_.Bool renaming true->AP,false->AQ
open _root_.Decidable renaming decide->AR
variable{P:Program}{c:AU}{B V V' V0 V3 W W' w w' w2 w5 wr:X}{a:A4}{A L N ar b base f g k lo m n p q size so tb tc wh wh' wi wi':I}{acc acc' bs l:A1}{lim r z:J}{Q:Exit->Act->X->Prop}{s:Cs}{fv key v v' x:Aq}{ks:AJ A1}{hd:I->I×I×I}{e kt t ty:AN}{xs:AJ Aq}{ds:AJ (AM Unit)}{d:A2}{rd:I->AS (J×J) (AM Unit×I)}{u:FrameMode}{F:I->Prop}{es:AJ (Lit×AM Unit)}{o:Oper}{args cs:A3}{st:I->I}{kl:Lit}{ev:Operand->Aq}{fr:I×I}{m':I->I->AK}
section
open Go.RowKit
theorem CD.f1(c:CD):c.arr[1]?=H (T c.ea (O c.L) c.ecap):=rfl
theorem CD.f10(c:CD):c.arr[10]?=H (T c.ba (O c.B) c.bcap):=rfl
theorem mt{c:CD}(h:Gz w c):Ar As 25 #[.agg c.arr] w λe a=>e=Ak (.agg (c.lent w).arr)/\Sa w a (c.L++Ep 8) (c.B++Fc 8):=by rw[CD.lent_arr];exact m4 c.size c.one c.f1 c.f10 h.en h.bn h.eb h.bb h.edges h.ints
theorem mu{c:CD}{w0:X}(h:Gz w0 c)(hb:A0 w0 w)(d:A7 w (K (U w0)+1+1) (Eg (c.L++Ep 8)) 119)(f:A7 w (K (U w0)+1+1+1) (EQ (c.B++Fc 8)) 3):Ar As 28 #[.agg (c.lent w0).arr,.agg c.arr] w λe b=>e=Ak (Ah AP)/\Below (K (U w0)) w b/\∀j,j<K (U w)->j≠K (U w0)+1+1->j≠K (U w0)+1+1+1->b.heap[j]?=w.heap[j]?:=by
 refine mo c.f1 c.f10 (c.lent w0).f1 (c.lent w0).f10 (AY h.eb) (AY h.bb) h.edges h.ints hb ?_ ?_ d f
 .intro a;show AX (if c.ea.isSome then _ else _) (O c.L) (if c.ea.isSome then _ else _)=_;rw[a];rfl
 intro a;show AX (if c.ba.isSome then _ else _) (O c.B) (if c.ba.isSome then _ else _)=_;rw[a];rfl
structure In where
 kind:Int
 a:Int
 b:Int
 c:Int
 d:Int
 s:ByteArray
 pp:A4
 pl:Nat
 pc:Nat
def In.arr(o:In):A3:=#[Ab Al o.kind,Ab Al o.a,Ab Al o.b,Ab Al o.c,Ab Al o.d,.string o.s,Ac o.pp o.pl o.pc]
structure O3(w:World)(a:A4)(n:Nat)(g:Nat->CD):Prop where
 at_:∀k,k<n->∃b off,a=some ⟨b,off,none⟩/\b<w.heap.size/\∀k j,k<n->j<11->w.cell? ⟨b,off+k*11+j,none⟩=(g k).arr[j]?
 each:∀k,k<n->Gz w (g k)
theorem O3.below{g:I->CD}(h:O3 w a n g)(hb:A0 w w'):O3 w' a n g :=
 ⟨λk c=>by obtain⟨b,off,f,d,e⟩:=h.at_ k c;exact⟨b,off,f,CK d hb.size,λk j c i=>(hb.cell d).trans (e k j c i)⟩,
 λk c=>(h.each k c).below hb⟩
def M0(c:AI)(n:AH):AH:=((if c<0 then -(c+1)else c)%(n:AI)).toNat
theorem Zw(c:J)(h:1<=n):M0 c n<n:=by unfold M0;have a:=kO (if c<0 then -(c+1)else c) (show(n:J)≠0 by omega);have b:=Int.emod_lt_of_pos (if c<0 then -(c+1)else c) (show(0:J)<n by omega);omega
theorem Zx{c:J}(w:X)(g:1<=n)(d:n<=maxLen)(i : -9223372036854775808<=c)(j:c<=9223372036854775807):Ar As 11 #[C Y c,C Y n] w λe f=>e=Ak (C Y (M0 c n))/\f=w:=by
 unfold maxLen at d;by_cases h:c<0
 .have a:D ((M0 c n)=(-(c+1))%n):=by grind [D,Int.emod_nonneg,M0,Int.toNat_of_nonneg]
  go_enter func11,ntmps11;go_wp2;go_ret;have b : -((c+1).tmod n)=(-(c+1))%n:=by rw[<-Int.neg_tmod,Yy E]
  exact⟨by rw[AE a,<-b];rfl,rfl⟩
 have a:D ((M0 c n)=c%n):=by grind [D,Int.emod_nonneg,M0,Int.toNat_of_nonneg]
 go_enter func11,ntmps11;go_wp2;go_ret;exact⟨by rw[AE a];rfl,rfl⟩
end
section
open Go.RowKit Go.Lib
theorem nU(a:GU l=AP)(h:D9 l c=1):GU (l++[c])=AP:=by
 match l,a with
 |[],_ =>
  unfold D9 at h;simp only[]at h;split at h
  .cases h
  split at h
  .cases h
  exact F4 E
 |[b0],a =>
  have d:=Dk a;unfold D9 at h;simp only[]at h;split at h
  .cases h
  split at h
  .cases h
  exact F4 E
 |[b0,b1],a =>
  have d:=Dk a;have e:=Vs (b:=b0) E;unfold D9 at h;simp only[]at h;split at h
  .cases h
  split at h
  .cases h
  exact F4 E
 |[b0,b1,b2],a =>
  grind [D9]
def Dr(bs:A1)(lim:AI):AH->AH->A1->AH->A5 A1
 |0,p,_,_=>.error (9,p)
 |g+1,p,acc,wh=>match bs[p]? with
  |none=>.error (9,p)
  |some c=>if(p:AI)=lim then .error (8,p)else
   if c.toNat=34/\wh=At acc then .ok (acc,p+1)else
   if c.toNat=92/\wh=At acc then(match Hp bs lim (p+1)with
    |.error e=>.error e
    |.ok (r,q)=>Dr bs lim g q (acc++Ei r) (At (acc++Ei r)))else
   if c.toNat<32 then .error (9,p)else if D9 (acc.drop wh) c=0 then .error (9,p)else
   Dr bs lim g (p+1) (acc++[c]) (if D9 (acc.drop wh) c=2 then At acc+1 else wh)
theorem nV(h:Ir bs lim p=.ok (r,q)):(0<=r/\r<=1114111)/\p+4<=q:=by
 unfold Ir at h;split at h
 .cases h
 next x q1 hx =>
 obtain⟨c,d⟩:=Sn hx;split at h
 .cases h
 split at h
 .next hhi =>
  have a:=Dk (show AR (55296<=x/\x<=56319)=AP from hhi);split at h
  .cases h
  next q2 hr =>
  split at h
  .cases h
  next y q3 hy =>
  obtain⟨e,f⟩:=Sn hy;split at h
  .next hlo =>
   have b:=Dk (show AR (56320<=y/\y<=57343)=AP from hlo);grind [Dn]
  cases h
 grind
theorem VA(h:Hp bs lim p=.ok (r,q)):(0<=r/\r<=1114111)/\p+1<=q:=by
 unfold Hp at h;split at h
 .cases h
 split at h
 .cases h
 repeat' split at h
 all_goals first
  |(cases h;omega)
  |(have:=nV h;omega)
  |cases h
theorem So{wf:I}(d:wh<=O acc)(e:GU (acc.drop wh)=AP)(f:¬D9 (acc.drop wh) c=0)(a:(if D9 (acc.drop wh) c=2 then O acc+1 else wh)=wf):GU ((acc++[c]).drop wf)=AP:=by
 by_cases b:D9 (acc.drop wh) c=2
 .rw[Cn b]at a;subst a;rw[OZ Ba];rfl
 rw[Ci b]at a;subst a;rw[RR d];refine nU e ?_;have g:D9 (acc.drop wh) c=0\/D9 (acc.drop wh) c=1\/D9 (acc.drop wh) c=2:=by unfold D9;grind
 omega
theorem M7{a:Act}(h:Q .ret a w):Exit.noGoto Q .ret a w:=h
structure Hq(W:World)(b:Nat)(s:Cs)(p:Nat)(acc:A1)(wh:Nat)(V:World):Prop where
 src:Ch V b {s with pos:=p}
 but:Cg b W V
 box:V.heap[W.heap.size]?=some (.cells #[A8 b] 215)
 gat:FX V (W.heap.size+1) (W.heap.size+2) acc wh
theorem Hq.take(h:Hq W b s p acc wh V)(hb:b<K (U W))(c:Ch V' b {s with pos:=q})(a:Cg b V V'):Hq W b s q acc wh V' :=
 ⟨c,h.but.trans a,(a.block _ (Cc h.box) E).trans h.box,h.gat.but a E E⟩
theorem Hq.below(h:Hq W b s p acc wh V)(a:A0 V V'):Hq W b s p acc wh V' :=
 ⟨h.src.below a,h.but.trans (Cg.of_below a),(a.block _ (Cc h.box)).trans h.box,h.gat.below a⟩
theorem Hq.keep(h:Hq W b s p acc wh V)(d:Ch W b s)(a:GV (K (U W)+1) (K (U W)+2) V V')(e:FX V' (K (U W)+1) (K (U W)+2) acc' wh'):Hq W b s p acc' wh' V' :=
 ⟨d.same rfl rfl h.src (λk c=>a.block k E E),⟨a.os.trans h.but.os,a.tape.trans h.but.tape,a.output.trans h.but.output,Cy h.but.size a.size,λk c f=>(a.block k E E).trans (h.but.block k c f)⟩,(a.block _ E E).trans h.box,e⟩
theorem nW:∀w:X,(convert 50 9 (T Ao 0 0)).run As w=.ok (Ae ⟨#[]⟩) w:=λw=>B6
theorem Qx(h:Ck W base v bs):(convert 50 9 v).run As W=.ok (Ae ⟨Aw bs⟩) W:=by have a:=h;obtain⟨⟨b,c⟩,d,e⟩:=h;grind [nW,run_convert_bytes_back,underlying50,underlying5,underlying9,Addr.add,O7]
theorem nX(h:Ch W b s):Hq W b s s.pos [] 0 (Az (Az W (M #[A8 b] 215)) (M #[T Ao 0 0,C Y 0] 394)):=by
 have a:A0 W (Az (Az W (M #[A8 b] 215)) (M #[T Ao 0 0,C Y 0] 394)):=(Cl).alloc Ba _;have c:=Cj (Az W (M #[A8 b] 215)) (o:=(M #[T Ao 0 0,C Y 0] 394));rw[CI]at c;refine⟨h.below a,Cg.of_below a,?_,⟨⟨_,c,?_⟩,E,Co _⟩⟩
 .grind [Cj,Below.heap_alloc]
 refine⟨Fa _ _ _ _,?_,Ao,0,0,Z⟩;simp
theorem ZV(h:Ch W b s)(ht:U8 W)(h7:7<b)(a6:O s.bs<=200000000):Ar As 275 #[Ag #[A8 b]] W (GS W b s (λl:A1=>Ae ⟨Aw l⟩) (Dr s.bs s.lim (O s.bs+1-s.pos) s.pos [] 0)):=by
 have ap:=G (nX h);have ab:=G h;have HT:=G ht;have F:=Cc h.row;have az:=h.le;obtain⟨ad,S⟩:=CA (Dr s.bs s.lim (O s.bs+1-s.pos) s.pos [] 0);rw[AE S];go_enter func275,ntmps275;go_wp2;go_step3;go_wp2;go_step3;go_wp2;generalize Az (Az W (M #[A8 b] 215)) (M #[T Ao 0 0,C Y 0] 394)=W0 at *
 go_loopg[4,8] (O s.bs+1-s.pos) (λg _ _ wr=>∃(p:I) (f:A1) (j:I),D (O s.bs+1<=p+g)/\D (p<=O s.bs)/\D (O f<=4*p)/\D (GU (f.drop j)=AP)/\D (Hq W b s p f j wr)/\D (Dr s.bs s.lim g p f j=ad))
 case atStart=>exact⟨s.pos,[],0,Bp,az,by show 0<=_;omega,rfl,ap,S⟩
 case round =>
  obtain⟨p,f,j,hg,hp,ha,an,m,S⟩:=hrel;obtain⟨g,rfl⟩:∃g,gk=g+1:=⟨gk-1,by grind [D]⟩
  have t:=Cb m.box 0;have HU:D (∀V,Cg b W V->U8 V):=by show∀V,_;intro V B;have hc:∀(q off:I) (aj:Aq),q<=7->A6 W q off aj->A6 V q off aj:=λq off aj hq hv=>(JN (w:=W) (B.block q E E)).trans hv;exact⟨λc av=>hc _ _ _ B8 (HT.1 c av),λao hi=>⟨hc _ _ _ B8 (HT.2 ao hi).1,hc _ _ _ B8 (HT.2 ao hi).2⟩⟩
  rcases Ji m.src with u|u|⟨c,u⟩
  .have HE:D (ad=.error (9,(p:J))):=by show _=_;rw[<-AE S,Dr,Hm (by have:p=O s.bs:=u;omega)]
   have z:=Ka m.src u
   go_wp2_with(first
    |(go_at_call 270;refine z.mono ?_;rintro e L ⟨hF,d⟩;obtain rfl:=hF))
   rw[AE HE];exact⟨Z,m.but.trans (Cg.of_below d),Z⟩
  .have HE:D (ad=.error (8,(p:J))):=by show _=_;have h2:=u.2;have h3:=u.1;grind [D,Dr]
   have z:=Kb m.src u
   go_wp2_with(first
    |(go_at_call 270;refine z.mono ?_;rintro e L ⟨hF,d⟩;obtain rfl:=hF))
   rw[AE HE];exact⟨Z,m.but.trans (Cg.of_below d),Z⟩
  have aw:=u.1;have ax:=u.2;have a2:=G u.lt;have k:=AE S;rw[Dr,aw]at k;simp only[]at k;rw[Ci ax]at k;have z:Ar As 270 #[A8 b] wr λe W'=>e=Ak (C Am c.toNat)/\Ch W' b {s with pos:=p+1}/\Cg b wr W':=IL m.src u;have A:=λV (B:Hq W b s (p+1) f j V)=>ZS B.gat;have hC:(j=O f/\c.toNat=34)\/(j=O f/\c.toNat=92)\/(j=O f/\c.toNat≠34/\c.toNat≠92)\/(j≠O f/\c.toNat=34)\/(j≠O f/\c.toNat=92)\/(j≠O f/\c.toNat≠34/\c.toNat≠92):=E;rcases hC with⟨y,P⟩|⟨y,Q⟩|⟨y,P,Q⟩|⟨y,P⟩|⟨y,Q⟩|⟨y,P,Q⟩
  .rw[F4 y]at A;rw[Cn ⟨P,y⟩]at k;subst k;have af:((c.toNat:J)==34)=AP:=B7
   go_wp2_with(first
    |(go_at_call 270;refine z.mono ?_;rintro e L ⟨rfl,o,d⟩;have a:=G (m.take F o d))
    |(go_at_call 281;refine(A _ a).mono ?_;rintro e N ⟨rfl,d⟩;have n:=G (a.below d);obtain⟨v3,r3,o3⟩:=n.gat.row;obtain⟨_,_,a3,n3,c3,rfl⟩:=(show Ck N _ _ _ from o3);have a5:=Qx o3;have k3:=Cb r3 0))
   refine M7 ?_;go_ret;exact⟨n.but,Z,n.src⟩
  .rw[F4 y]at A;rw[Ci (λhh=>E),Cn ⟨Q,y⟩]at k;have af:=D7 (c:=c) 34 E;have am:((c.toNat:J)==92)=AP:=B7;have cE:=λV (B:Hq W b s (p+1) f j V)=>nH B.src;rcases he:Hp s.bs s.lim (p+1)with⟨en,pl⟩|⟨r,q⟩
   .rw[he]at k;have ae:∀V,Hq W b s (p+1) f j V->Ar As 283 #[Ag #[A8 b]] V (GS V b {s with pos:=p+1} (λx:J=>C .i32 x) (.error (en,pl))):=by rw[<-he];exact cE
    subst k
    go_wp2_with(first
     |(go_at_call 270;refine z.mono ?_;rintro e L ⟨rfl,o,d⟩;have a:=G (m.take F o d);have t:=Cb a.box 0)
     |(go_at_call 281;refine(A _ a).mono ?_;rintro e N ⟨rfl,d⟩;have n:=G (a.below d);have a:=n;have t:=Cb a.box 0)
     |(go_at_call 283;refine(ae _ a).mono ?_;rintro e w5 ⟨d,hF⟩;obtain rfl:=hF))
    exact⟨Z,a.but.trans d,Z⟩
   rw[he]at k;simp only[]at k;have ae:∀V,Hq W b s (p+1) f j V->Ar As 283 #[Ag #[A8 b]] V (GS V b {s with pos:=p+1} (λx:J=>C .i32 x) (.ok (r,q))):=by rw[<-he];exact cE
   have ay:=VA he;have a0:=G ay.2;have HN:=G k;have cC:=λV (B:Hq W b s q f j V)=>nT r E E B.gat (by grind [D]);have a4:=G ((Qv r).2)
   go_wp2_with(first
    |(go_at_call 270;refine z.mono ?_;rintro e L ⟨rfl,o,d⟩;have a:=G (m.take F o d);have t:=Cb a.box 0)
    |(go_at_call 281;refine(A _ a).mono ?_;rintro e N ⟨rfl,d⟩;have n:=G (a.below d);have a:=n;have t:=Cb a.box 0)
    |(go_at_call 283;refine(ae _ a).mono ?_;rintro e w5 ⟨d,rfl,o⟩;have ak:=G (a.take F o d))
    |(go_at_call 282;refine(cC _ ak).mono ?_;rintro e w6 ⟨rfl,au,ar⟩;have al:=G (ak.keep ab au ar)))
   go_roundg g
   case measure=>omega
   case rel=>exact⟨q,f++Ei r,O (f++Ei r),by grind [D],al.src.le,by grind [D],B9,al,HN⟩
  all_goals
   first|rw[F4 y]at A|rw[Fv y]at A
   first|have af:((c.toNat:J)==34)=AP:=B7|have af:=D7 (c:=c) 34 E
   first|have am:((c.toNat:J)==92)=AP:=B7|have am:=D7 (c:=c) 92 E
   rw[Ci (λhh=>E),Ci (λhh=>E)]at k;by_cases aa:c.toNat<32
   .rw[Cn aa]at k;subst k;have aq:AR ((c.toNat:J)<32)=AP:=B7
    first
    |exact absurd aa E
    |clear aa
     try clear P
     try clear Q
     go_wp2_with(first
      |(go_at_call 270;refine z.mono ?_;rintro e L ⟨rfl,o,d⟩;have a:=G (m.take F o d);have t:=Cb a.box 0)
      |(go_at_call 281;refine(A _ a).mono ?_;rintro e N ⟨rfl,d⟩;have n:D (Hq W b s (p+1) f j N):=a.below d;have a:=n;have t:=Cb a.box 0)
      |(go_at_call 271;refine(FJ _ a.src).mono ?_;rintro e w7 ⟨hF,rfl⟩;obtain rfl:=hF))
     exact⟨Z,a.but,C6⟩
   rw[Ci aa]at k;have aq:AR ((c.toNat:J)<32)=AQ:=B7
   try clear P
   try clear Q
   obtain⟨wf,ac⟩:=CA ((if D9 (f.drop j) c=2 then O f+1 else j));have v:=λV (B:Hq W b s (p+1) f j V)=>ZU c B.gat an.out (HU V B.but) E (by grind [D]);rw[AE ac]at v;by_cases R:D9 (f.drop j) c=0
   .rw[Cn R]at k;subst k;have ai:(D9 (f.drop j) c != 0)=AQ:=by rw[R];rfl
    rw[ai]at v
    go_wp2_with(first
     |(go_at_call 270;refine z.mono ?_;rintro e L ⟨rfl,o,d⟩;have a:=G (m.take F o d);have t:=Cb a.box 0)
     |(go_at_call 281;refine(A _ a).mono ?_;rintro e N ⟨rfl,d⟩;have n:=G (a.below d);have a:=n;have t:=Cb a.box 0)
     |(go_at_call 284;refine(v _ a).mono ?_;rintro e w4 ⟨rfl,ah,ag⟩;have i:=G (a.keep ab ah ag);have t:=Cb i.box 0)
     |(go_at_call 271;refine(FJ _ i.src).mono ?_;rintro e w7 ⟨hF,rfl⟩;obtain rfl:=hF))
    exact⟨Z,i.but,C6⟩
   rw[Ci R,AE ac]at k;have HN:=G k;have ai:(D9 (f.drop j) c != 0)=AP:=keU;rw[ai]at v;have a1:=G (So m.gat.le an.out R ac)
   go_wp2_with(first
    |(go_at_call 270;refine z.mono ?_;rintro e L ⟨rfl,o,d⟩;have a:=G (m.take F o d);have t:=Cb a.box 0)
    |(go_at_call 281;refine(A _ a).mono ?_;rintro e N ⟨rfl,d⟩;have n:=G (a.below d);have a:=n;have t:=Cb a.box 0)
    |(go_at_call 284;refine(v _ a).mono ?_;rintro e w4 ⟨rfl,ah,ag⟩;have i:=G (a.keep ab ah ag);have t:=Cb i.box 0))
   go_roundg g
   case measure=>omega
   grind [D]
def Dm(bs:A1)(lim:AI):AH->AH->A1->AH->A5 A1
 |0,p,acc,wh=>if wh=At acc then .ok (acc,p)else .error (9,(p:AI)-1)
 |k+1,p,acc,wh=>match bs[p]? with
  |none=>.error (9,p)
  |some c=>if(p:AI)=lim then .error (8,p)else if D9 (acc.drop wh) c=0 then .error (9,p)else
   Dm bs lim k (p+1) (acc++[c]) (if D9 (acc.drop wh) c=2 then At acc+1 else wh)
structure JT(W:World)(b:Nat)(fv:Value)(s:Cs)(p:Nat)(acc:A1)(wh:Nat)(V:World):Prop where
 src:Ch V b {s with pos:=p}
 but:Cg b W V
 box:V.heap[W.heap.size]?=some (.cells #[A8 b,fv] 218)
 gat:FX V (W.heap.size+1) (W.heap.size+2) acc wh
theorem JT.take(h:JT W b fv s p acc wh V)(hb:b<K (U W))(c:Ch V' b {s with pos:=q})(a:Cg b V V'):JT W b fv s q acc wh V' :=
 ⟨c,h.but.trans a,(a.block _ (Cc h.box) E).trans h.box,h.gat.but a E E⟩
theorem JT.below(h:JT W b fv s p acc wh V)(a:A0 V V'):JT W b fv s p acc wh V' :=
 ⟨h.src.below a,h.but.trans (Cg.of_below a),(a.block _ (Cc h.box)).trans h.box,h.gat.below a⟩
theorem JT.keep(h:JT W b fv s p acc wh V)(d:Ch W b s)(a:GV (K (U W)+1) (K (U W)+2) V V')(e:FX V' (K (U W)+1) (K (U W)+2) acc' wh'):JT W b fv s p acc' wh' V' :=
 ⟨d.same rfl rfl h.src (λk c=>a.block k E E),⟨a.os.trans h.but.os,a.tape.trans h.but.tape,a.output.trans h.but.output,Cy h.but.size a.size,λk c f=>(a.block k E E).trans (h.but.block k c f)⟩,(a.block _ E E).trans h.box,e⟩
theorem oE(h:Ch W b s):JT W b fv s s.pos [] 0 (Az (Az W (M #[A8 b,fv] 218)) (M #[T Ao 0 0,C Y 0] 394)):=by
 have a:A0 W (Az (Az W (M #[A8 b,fv] 218)) (M #[T Ao 0 0,C Y 0] 394)):=(Cl).alloc Ba _;have c:=Cj (Az W (M #[A8 b,fv] 218)) (o:=(M #[T Ao 0 0,C Y 0] 394));rw[CI]at c;refine⟨h.below a,Cg.of_below a,?_,⟨⟨_,c,?_⟩,E,Co _⟩⟩
 .grind [Cj,Below.heap_alloc]
 refine⟨Fa _ _ _ _,?_,Ao,0,0,Z⟩;simp
theorem ag(f:I)(hn:n<18446744073709551616)(h:Ch W b s)(ht:U8 W)(h7:7<b)(ar:O s.bs<=200000000):Ar As 305 #[Ag #[A8 b,.func (.func f) #[] #[]],C .u64 n] W (Pj W b s (λl:A1=>Ae ⟨Aw l⟩) (Dm s.bs s.lim n s.pos [] 0)):=by
 have ad:D (JT W b (.func (.func f) #[] #[]) s s.pos [] 0 (Az (Az W (M #[A8 b,.func (.func f) #[] #[]] 218)) (M #[T Ao 0 0,C Y 0] 394))):=oE h;have ac:=G h;have S:=G ht;have ae:=Cc h.row;have an:=h.le;obtain⟨R,u⟩:=CA (Dm s.bs s.lim n s.pos [] 0);rw[AE u];go_enter func305,ntmps305;go_wp2;generalize Az (Az W (M #[A8 b,.func (.func f) #[] #[]] 218)) (M #[T Ao 0 0,C Y 0] 394)=W0 at *
 go_loopg[7] n (λg ao wr=>∃(k p:I) (d:A1) (r:I),ao=C .u64 k/\D (k+g=n)/\D (p<=O s.bs)/\D (O d<=p)/\D (GU (d.drop r)=AP)/\D (JT W b (.func (.func f) #[] #[]) s p d r wr)/\D (Dm s.bs s.lim g p d r=R))
 case atStart=>exact⟨0,s.pos,[],0,rfl,Bg,an,by show 0<=_;omega,rfl,ad,u⟩
 case round =>
  clear ad u;obtain⟨k,p,d,r,rfl,hg,hp,ha,af,a,u⟩:=hrel;have kb:=Cb a.box 0;have HU:D (∀V,Cg b W V->U8 V):=by show∀V,_;intro V N;have hc:∀(q off:I) (ab:Aq),q<=7->A6 W q off ab->A6 V q off ab:=λq off ab hq hv=>(JN (w:=W) (N.block q E E)).trans hv;exact⟨λc ak=>hc _ _ _ B8 (S.1 c ak),λah hi=>⟨hc _ _ _ B8 (S.2 ah hi).1,hc _ _ _ B8 (S.2 ah hi).2⟩⟩
  obtain _|g:=gk
  .have hk:k=n:=AY (AE hg);subst hk;have m:=AE u;rw[Dm]at m;have L:=ZS a.gat;by_cases P:r=O d
   .rw[Cn P]at m;subst m;rw[F4 P]at L
    go_wp2_with(first
     |(go_at_call 281;refine L.mono ?_;rintro e w3 ⟨rfl,j⟩;have t:=G (a.below j);obtain⟨v3,r3,o3⟩:=t.gat.row;obtain⟨_,_,a3,n3,c3,rfl⟩:=(show Ck w3 _ _ _ from o3);have ap:=Qx o3;have k3:=Cb r3 0))
    go_ret;exact⟨t.but,Z,t.src⟩
   rw[Ci P]at m;subst m;rw[Fv P]at L
   go_wp2_with(first
    |(go_at_call 281;refine L.mono ?_;rintro e w3 ⟨rfl,j⟩;have t:=G (a.below j);have kb:=Cb t.box 0)
    |(go_at_call 271;refine(FJ _ t.src).mono ?_;rintro e w7 ⟨hF,rfl⟩;obtain rfl:=hF))
   exact⟨Z,t.but,Z,_,t.src⟩
  have aq:k<n:=AY (AE hg);rcases Ji a.src with o|o|⟨c,o⟩
  .have Q:D (R=.error (9,(p:J))):=by show _=_;rw[<-AE u,Dm,Hm (by have:p=O s.bs:=o;omega)]
   have y:=Ka a.src o
   go_wp2_with(first
    |(go_at_call 270;refine y.mono ?_;rintro e w2 ⟨hF,j⟩;obtain rfl:=hF))
   rw[AE Q];exact⟨Z,a.but.trans (Cg.of_below j),Z,_,a.src.below j⟩
  .have Q:D (R=.error (8,(p:J))):=by show _=_;have h2:=o.2;have h3:=o.1;grind [D,Dm]
   have y:=Kb a.src o
   go_wp2_with(first
    |(go_at_call 270;refine y.mono ?_;rintro e w2 ⟨hF,j⟩;obtain rfl:=hF))
   rw[AE Q];exact⟨Z,a.but.trans (Cg.of_below j),Z,_,a.src.below j⟩
  have al:=o.1;have am:=o.2;have aj:=G o.lt;have m:=AE u;rw[Dm,al]at m;simp only[]at m;rw[Ci am]at m;have y:Ar As 270 #[A8 b] wr λe W'=>e=Ak (C Am c.toNat)/\Ch W' b {s with pos:=p+1}/\Cg b wr W':=IL a.src o;obtain⟨wf,z⟩:=CA ((if D9 (d.drop r) c=2 then O d+1 else r));have B:=λV (N:JT W b (.func (.func f) #[] #[]) s (p+1) d r V)=>ZU c N.gat af.out (HU V N.but) E (by grind [D]);rw[AE z]at B;by_cases F:D9 (d.drop r) c=0
  .rw[Cn F]at m;subst m;have aa:(D9 (d.drop r) c != 0)=AQ:=by rw[F];rfl
   rw[aa]at B
   go_wp2_with(first
    |(go_at_call 270;refine y.mono ?_;rintro e w2 ⟨rfl,hS,j⟩;have A:=G (a.take ae hS j))
    |(go_at_call 284;refine(B _ A).mono ?_;rintro e w4 ⟨rfl,v,i⟩;have x:=G (A.keep ac v i);have kb:=Cb x.box 0)
    |(go_at_call 271;refine(FJ _ x.src).mono ?_;rintro e w7 ⟨hF,rfl⟩;obtain rfl:=hF))
   exact⟨Z,x.but,C6,_,x.src⟩
  rw[Ci F,AE z]at m;have HN:=G m;have aa:(D9 (d.drop r) c != 0)=AP:=by simpa using F
  rw[aa]at B;have ai:=G (So a.gat.le af.out F z)
  go_wp2_with(first
   |(go_at_call 270;refine y.mono ?_;rintro e w2 ⟨rfl,hS,j⟩;have A:=G (a.take ae hS j))
   |(go_at_call 284;refine(B _ A).mono ?_;rintro e w4 ⟨rfl,v,i⟩;have x:=G (A.keep ac v i)))
  go_roundg g
  case measure=>omega
  case rel=>exact⟨k+1,p+1,d++[c],wf,Bb,B9,aj,by grind [D],ai,x,HN⟩
end
section
open Go.RowKit
def ES(W:Ap)(m:AH)(ks:AJ A1):Prop:=∃D,W.ownsMap As 9 (unitElem (H:=Unit)) m (At ks) D/\∀l:A1,Maps.has D (.string l)=AR (l∈ks)
theorem ES.kept{row:Option I}(h:ES W m ks)(d:W.grownBy W' row)(e:H m≠row):ES W' m ks:=BS
theorem N6(hb:O l<=1000000000):keyOf As 9 (Ae ⟨Aw l⟩)=H (.string l):=by
 have a:(⟨Aw l⟩:AT).size<=maxLen:=by show(Aw l).size<=maxLen;grind [maxLen]
 simp[keyOf,mapKey,underlying9,a]
theorem ah(h:ES W m ks)(hl:l∈ks)(hb:O l<=1000000000):Ar As 294 #[.map (H m),Ae ⟨Aw l⟩] W λe a=>e=Ak (Ah AQ)/\A0 W a:=by obtain⟨i,b,c⟩:=h;have g:(zeroValue 267).run As W=.ok (Ag #[]) W:=B6;obtain⟨v,j,d,f⟩:=b.look_ok (Qh underlying9) underlying399 g UV (N6 hb);obtain⟨rfl,_⟩:=unitElem_inv f;rw[c l,F4 hl]at d;go_enter func294,ntmps294;go_wp2;go_ret;exact⟨Z,Cl⟩
theorem aj(h:ES W m ks)(hl:¬l∈ks)(w:O ks<1000000000)(hb:O l<=1000000000):Ar As 294 #[.map (An m),Ae ⟨Aw l⟩] W λe d=>e=Ak (Ah AP)/\ES d m (l::ks)/\Cg m W d:=by
 obtain⟨u,b,g⟩:=h;have t:(zeroValue 267).run As W=.ok (Ag #[]) W:=B6;obtain⟨v,y,r,s⟩:=b.look_ok (Qh underlying9) underlying399 t UV (N6 hb);obtain⟨rfl,_⟩:=unitElem_inv s;rw[g l,Fv hl]at r;obtain⟨f,x,o,i⟩:=(b.alloc (M #[] 267)).store (Qh underlying9) underlying399 Bc (N6 hb) (val:=Ag #[]) (UV (H:=Unit));have c:D (ES f m (l::ks)/\Cg m W f):=by
  refine⟨⟨_,o,λq=>?_⟩,?_⟩
  .by_cases p:q=l
   .subst p;rw[UF b.isMap (Qh (P:=As) underlying9 |>.key (N6 hb))];simp
   grind [Maps.has_put_other]
  have a:=i.grown;exact⟨a.os,a.tape,a.output,Cy Ba a.size,λk j n=>(a.block k B7 (by simpa using n)).trans (Cx _ _ _ j)⟩
 go_enter func294,ntmps294;go_wp2;go_ret;exact⟨Z,c.1,c.2⟩
def GD(rd:AH->AS (AI×AI) (AM Unit×AH)):AH->AH->AJ (AM Unit)->AS (AI×AI) (AJ (AM Unit)×AH)
 |0,p,acc=>.ok (acc,p)
 |k+1,p,acc=>match rd p with
  |.error e=>.error e
  |.ok (d,q)=>GD rd k q (acc++[d])
def E8(hd:AH->AH×AH×AH)(bs:A1)(lim:AI)(ks:AJ A1)(p:AH):A5 A1 :=
 match bs[p]? with
 |none=>.error (9,p)
 |some c=>if(p:AI)=lim then .error (8,p)else if(hd c.toNat).1=8 then
   match CR bs lim (hd c.toNat).2.1 (p+1) (hd c.toNat).2.2 with
   |.error e=>.error e
   |.ok (x,q)=>match Dm bs lim x q [] 0 with
    |.error e=>.error e
    |.ok (l,r)=>if l∈ks then .error (12,(r:AI)-1)else .ok (l,r)
  else .error (9,p)
def Gj(kf:AJ A1->AH->A5 A1)(rd:AH->AS (AI×AI) (AM Unit×AH)):AH->AH->AJ A1->AJ (Lit×AM Unit)->AS (AI×AI) (AJ (Lit×AM Unit)×AH)
 |0,p,_,acc=>.ok (acc,p)
 |k+1,p,ks,acc=>match kf ks p with
  |.error e=>.error e
  |.ok (l,q)=>match rd q with
   |.error e=>.error e
   |.ok (d,r)=>Gj kf rd k r (l::ks) (acc++[(.string l,d)])
def G0(bs:A1)(lim:AI)(li:AH->AH->AS (AI×AI) (AJ (AM Unit)×AH))(ma:AH->AH->AS (AI×AI) (AJ (Lit×AM Unit)×AH))(so w x q:AH):AS (AI×AI) (AM Unit×AH) :=
 match so with
 |2=>.ok (.lit (.bool AQ),q)
 |3=>.ok (.lit (.bool AP),q)
 |4=>match Fj 4 w x q with
  |.error e=>.error e
  |.ok z=>.ok (.lit (.int Al z),q)
 |5=>match Fj 5 w x q with
  |.error e=>.error e
  |.ok z=>.ok (.lit (.int Al z),q)
 |6=>match Fj 6 w x q with
  |.error e=>.error e
  |.ok z=>.ok (.lit (.int Al z),q)
 |7=>match EJ bs lim x q []with
  |.error e=>.error e
  |.ok (l,r)=>.ok (.ptr (.lit (.string l)),r)
 |8=>match Dm bs lim x q [] 0 with
  |.error e=>.error e
  |.ok (l,r)=>.ok (.lit (.string l),r)
 |9=>match li x q with
  |.error e=>.error e
  |.ok (ds,r)=>.ok (.agg ds,r)
 |10=>match ma x q with
  |.error e=>.error e
  |.ok (es,r)=>.ok (.map es,r)
 |_=>.ok (.nil,q)
def DM(hd:AH->AH×AH×AH)(bs:A1)(lim depth:AI):AH->AH->AH->AS (AI×AI) (AM Unit×AH)
 |0,_,_=>.error (0,0)
 |g+1,wi,p=>match bs[p]? with
  |none=>.error (9,p)
  |some c=>if(p:AI)=lim then .error (8,p)else if(hd c.toNat).1=0 then .error (9,p)else
   if((hd c.toNat).1=9\/(hd c.toNat).1=10)/\(wi:AI)=depth then .error (11,p)else
   match CR bs lim (hd c.toNat).2.1 (p+1) (hd c.toNat).2.2 with
   |.error e=>.error e
   |.ok (x,q)=>G0 bs lim (λx q=>GD (DM hd bs lim depth g (wi+1)) x q []) (λx q=>Gj (E8 hd bs lim) (DM hd bs lim depth g (wi+1)) x q [] []) (hd c.toNat).1 (hd c.toNat).2.1 x q
theorem SB{depth:J}{w:I}(a:bs[p]?=H c)(b:¬(p:J)=lim)(d:hd c.toNat=(so,w,ar)):DM hd bs lim depth (g+1) wi p=(if so=0 then .error (9,(p:J))else if(so=9\/so=10)/\(wi:J)=depth then .error (11,(p:J))else
   match CR bs lim w (p+1) ar with
   |.error e=>.error e
   |.ok (x,q)=>G0 bs lim (λx q=>GD (DM hd bs lim depth g (wi+1)) x q []) (λx q=>Gj (E8 hd bs lim) (DM hd bs lim depth g (wi+1)) x q [] []) so w x q):=by
 grind [DM]
def QF(k:AH)(W:Ap)(b:AH)(s:Cs)(r:AS (AI×AI) (AM Unit×AH))(e:Ending)(W':Ap):Prop :=
 Cg b W W'/\match r with
 |.ok (d,p)=>(∃t y,e=Ak (Ai t y)/\Cv k W' (λj=>_root_.Array.size (Av W)<=j/\j<_root_.Array.size (Av W')) (Ai t y) d)/\Ch W' b {s with pos:=p}
 |.error (en,pl)=>CV en pl e/\∃p,Ch W' b {s with pos:=p}
def VI(k f b:AH)(s:Cs)(W0:Ap)(rd:AH->AS (AI×AI) (AM Unit×AH)):Prop :=
 ∀(V:Ap) (p:AH),Ch V b {s with pos:=p}->Cg b W0 V->Ar As 301 #[Ag #[A8 b,.func (.func f) #[] #[]]] V (QF k V b {s with pos:=p} (rd p))
structure KW(k:Nat)(W:World)(b:Nat)(fv:Value)(s:Cs)(p:Nat)(v:Value)(ds:List (DataW Unit))(V:World):Prop where
 src:Ch V b {s with pos:=p}
 but:Cg b W V
 box:V.heap[W.heap.size]?=some (.cells #[A8 b,fv] 218)
 own:∃xs,V.ownsRow (W.heap.size+1) 89 1 v ds.length xs/\∀(i:Nat) (x:Value) (d:A2),xs[i]?=some x->ds[i]?=some d->Cv k V (λj=>W.heap.size+1<=j/\j<V.heap.size/\some j≠v.ownBlock) x d
 size:W.heap.size+1<=V.heap.size
theorem SC(h:W.ownsRow base t size v n xs)(k:Cg b W W')(m:b<base):W'.ownsRow base t size v n xs:=by
 obtain⟨i,a⟩:=h;refine⟨i,?_⟩;rcases a with a|⟨g,d,f,e,l,c,j⟩
 .exact AF a
 exact AG ⟨g,d,f,e,l,(k.block g (Cc c) E).trans c,j⟩
theorem KW.but'(h:KW k W b fv s p v ds V)(hb:b<K (U W))(l:Ch V' b {s with pos:=q})(a:Cg b V V'):KW k W b fv s q v ds V':=by obtain⟨n,e,f⟩:=h.own;refine⟨l,h.but.trans a,(a.block _ (Cc h.box) E).trans h.box,⟨n,SC e a E,λi x d m g=>?_⟩,Cy h.size a.size⟩;refine(f i x d m g).same (λj c=>⟨c.1,CK c.2.1 a.size,c.2.2⟩) (λj c=>a.block j c.2.1 E)
theorem oG(h:Ch W b s):KW k W b fv s s.pos (T Ao 0 0) [] (Az W (M #[A8 b,fv] 218)):=by have a:Below _ W (Az W (M #[A8 b,fv] 218)):=Cl;exact⟨h.below a,Cg.of_below a,Cj W,⟨[],Fa _ _ _ _,λi x d c=>kfk⟩,Ba⟩
theorem KW.push(h:KW k W b fv s p v ds V)(z:Ch W b s)(u:V.ownsRow (K (U W)+1) 89 1 v (O ds) xs)(hx:∀(i:I) (x:Aq) (d:A2),xs[i]?=H x->ds[i]?=H d->Cv k V (λj=>K (U W)+1<=j/\j<K (U V)/\H j≠Ax v) x d)(A:Cv k V (λj=>K (U V0)<=j/\j<K (U V)) x d)(R:∀g,Ax v=H g->g<K (U V0))(F:K (U W)+1<=K (U V0))(P:w5.ownsRow (K (U W)+1) 89 1 v' (O ds+1) (xs++[x]))(f:(Az V (M #[x] 89)).grownBy w5 (Ax v))(n:Ax v'=Ax v\/Ax v'=H (K (U (Az V (M #[x] 89))))):KW k W b fv s p v' (ds++[d]) w5:=by
 have Q:=h.size;have L:K (U V)+1<=K (U w5):=ke2;have key:∀g,Ax v=H g->K (U W)+1<=g:=λg f=>DK u f;have q:=λj a m=>(f.block j B7 m).trans (Cx _ _ _ a);have r:∀j,j<K (U W)+1->w5.heap[j]?=V.heap[j]?:=λj a=>q j E (λe=>B9);refine⟨z.same Z Z h.src (λj a=>r j E),⟨f.os.trans h.but.os,f.tape.trans h.but.tape,f.output.trans h.but.output,E,λj a m=>(r j E).trans (h.but.block j a m)⟩,(r _ E).trans h.box,⟨xs++[x],B9,λi y c o l=>?_⟩,E⟩;have t:∀j,j<K (U V)->H j≠Ax v->H j≠Ax v':=λj a m=>by
  rcases n with n|n
  .rw[n];exact m
  rw[n];intro e;injection e with e;simp at e;omega
 have B:O xs=O ds:=AY u.1;by_cases N:i<O ds
 .rw[GM E]at o l;exact(hx i y c o l).same (λj a=>⟨a.1,AY a.2.1,t j a.2.1 a.2.2⟩) (λj a=>q j a.2.1 a.2.2)
 have e:i=O ds:=B9;subst e;rw[IU E]at l;rw[IU E,B]at o;simp at o l;subst o;subst l;have w:∀j,K (U V0)<=j->H j≠Ax v:=λj a e=>B9;exact A.same (λj a=>⟨E,E,t j a.2 (w j a.1)⟩) (λj a=>q j a.2 (w j a.1))
theorem Ps(h:V.ownsRow base t size v n xs):∀g,Ax v=H g->g<K (U V):=λg a=>by
 rcases h.2 with⟨b,_⟩|⟨f,d,e,rfl,i,c,_⟩
 .subst b;cases a
 cases a;exact Cc c
theorem KW.row(h:KW k W b fv s p v ds V):Cv (k+1) V (λj=>K (U W)<=j/\j<K (U V)) (Ai 221 v) (.agg ds):=by
 obtain⟨u,a,m⟩:=h.own;unfold Cv;refine⟨v,u,Z,⟨a.1,?_⟩,λi x d t q=>(m i x d t q).same (λj r=>⟨E,r.2.1⟩) (λ_ _=>rfl)⟩;rcases a.2 with n|⟨g,f,l,e,w,c,o⟩
 .exact AF n
 exact AG ⟨g,f,l,e,⟨E,(Cc c)⟩,c,o⟩
theorem Tryz.infoThing:(prog.info? 89).map (λi=>(i.zero,i.size,i.bytes))=H (H .nilIface,1,16):=B6
theorem oH(hn:n<18446744073709551616)(h:Ch W b s)(a1:O s.bs<=200000000)(t:VI k f b s W rd)(S:∀p d q,rd p=.ok (d,q)->p<q):Ar As 306 #[Ag #[A8 b,.func (.func f) #[] #[]],C .u64 n] W (Qz W b s (λV v o=>(∃a n c,v=T a n c)/\Cv (k+1) V (λj=>K (U W)<=j/\j<K (U V)) (Ai 221 v) (.agg o)) (GD rd n s.pos [])):=by
 obtain⟨i0,hi,ap,aq,ar⟩:=DD Tryz.infoThing;have ag:D (KW k W b _ s _ _ [] (Az W (M #[.pointer _,.func (.func f) #[] #[]] _))):=oG h;have ae:=G h;have ad:=G t;have ab:=G S;have aj:=Cc h.row;have a0:=h.le;obtain⟨R,w⟩:=CA (GD rd n s.pos []);rw[AE w];clear h t S;go_enter func306,ntmps306;go_wp2;generalize Az W (M #[A8 b,.func (.func f) #[] #[]] 218)=W0 at *
 go_loopg[5,7] n (λg y av wr=>∃(m p:I) (a:A4) (l c:I) (o:AJ (AM Unit)),y=T a l c/\av=C .u64 m/\D (m+g=n)/\D (p<=O s.bs)/\D (O o<=p)/\D (KW k W b (.func (.func f) #[] #[]) s p (T a l c) o wr)/\D (GD rd g p o=R))
 case atStart=>grind [D]
 case round =>
  clear ag w;obtain⟨m,p,a,l,c0,o,rfl,rfl,N,hp,ha,i,w⟩:=hrel;have kb:=Cb i.box 0;have a3:=Cb i.box 1;obtain _|g:=gk
  .have hk:m=n:=AY (AE N);subst hk;have B:D (R=.ok _):=w.symm;clear w N;go_wp2;go_ret;rw[AE B];exact⟨i.but,⟨_,Z,⟨_,_,_,Z⟩,i.row⟩,i.src⟩
  have az:m<n:=AY (AE N);have x:=ad.out wr p i.src i.but;have r:=AE w;rw[GD]at r;rcases hq:rd p with er|dq
  .rw[hq]at r x;simp only[]at r;obtain⟨en,pl⟩:=er;have B:=G r.symm;clear w r hq
   go_wp2_with(first
    |(go_at_call 301;apply x.mono;clear x;rintro e A ⟨L,hF⟩;obtain⟨hF,pz,am⟩:=(show CV en pl e/\∃p,Ch A b {s with pos:=p}from hF);obtain rfl:=hF))
   rw[AE B];exact⟨Z,i.but.trans L,Z,pz,am⟩
  obtain⟨d,q⟩:=dq;rw[hq]at r x;simp only[]at r;have a2:=ab.out p d q hq;have HN:=G r;have ay:O o<=200000000:=by grind [D]
  have aw:D (O o+1<=q):=by grind [D]
  have af:=G i.size;have ac:D (∀g,Ax (AX a l c0)=H g->g<K (U wr)):=by obtain⟨xs,h1,_⟩:=i.own;exact Ps h1
  go_wp2_with(first
   |(go_at_call 301;apply x.mono;rintro e A ⟨L,hF⟩;obtain⟨⟨au,y,rfl,hd⟩,Q⟩:=(show(∃au y,e=Ak _/\Cv k A _ _ d)/\Ch A b {s with pos:=q}from hF);have F:=G (i.but' aj Q L);have HD:=G hd;have HQ:=G Q.le;obtain⟨xs,al,ao⟩:=F.own;have P:=G al;have ai:=G ao;have aa:=G F.size)
   |(at_builtin;apply Jl Z Z underlying221 hi ap aq ar Z B8 Z (P.alloc _) 1 1 Z Z (EI) (λa4 z=>by simp at z;subst z;rfl) B8 Bc E (B1 (AE aa));intro v' w5 u ak an;have ah:=G (F.push ae P ai HD ac af u ak an);obtain⟨g5,ax,rfl⟩:=ownsRow_succ u))
  go_roundg g
  case measure=>omega
  case rel=>exact⟨_,q,_,_,_,_,rfl,Bb,B9,HQ,by grind [D],ah,HN⟩
theorem an{c:Code}{a:Act}(T:I->X->Prop)(b:I->Act)(d:(∀x V,T x V->Q .normal (b x) V)->c.wp P Q a w)(e:∀x V,T x V->Q .normal (b x) V):c.wp P Q a w:=d e
theorem oI(h:Ch W b s)(c:s.within=k+1)(i:s.within<=1000000):CallsD As 293 #[A8 b] u W λe d a=>d=u/\(e=Ak (Af #[])/\Ch a b {s with within:=k}/\Cg b W a):=by
 have j:AC W ⟨b,4,Ao⟩=H (C Y (k+1)):=by have:=Cb h.row 4;rw[this];show H (Value.int Y (s.within:J))=_;rw[c];rfl
 have g:=Dq W b 4 _ _ h.row;have f:D (Ch (AB W _ _) b _/\Cg b W (AB W _ (.int _ k))):=VH 0 h;apply callsD_of_wp func293 Z;simp only[ntmps293,KC,FU,Je,Nat.reduceAdd,Nat.reduceSub,NQ,NR,NU,NS,KG,Lf];go_wp2;go_end0;grind [D]
theorem ap(t:J)(h:Ch W b s)(r:∀V,Ch V b s->Ar As 270 #[A8 b] V λe m=>CV t s.pos e/\A0 V m):Ar As 301 #[Ag #[A8 b,.func (.func f) #[] #[]]] W λe m=>Cg b W m/\CV t s.pos e/\∃p,Ch m b {s with pos:=p}:=by
 have l:=G h;have y:Below _ W (Az W (M #[A8 b,.func (.func f) #[] #[]] 218)).drew:=(Cl).drew;have g:=G y;have u:D ((Az W _).drew.heap[K (U W)]?=H (M #[A8 b,.func (.func f) #[] #[]] 218)):=Cj W
 go_enter_defers func301,ntmps301
 go_wp2_with fail
 apply Ef (S:=λV=>A7 V (K (U W)) #[A8 b,.func (.func f) #[] #[]] 218) B6;have d:=AE u;refine EA (i:=0) (v:=A9 (K (U W)) 1) rfl B6 B6 B6 (λc a w h=>MZ results301 B8 h) (AF ⟨rfl,λV k=>rfl⟩) d <| EA (i:=1) (v:=.func (.func f) #[] #[]) rfl B6 B6 B6 (λc a w h=>MZ results301 B8 h) (AF ⟨rfl,λV k=>?y1⟩) d ?_
 case y1=>(have x:=Cb k 1;go_simp)
 refine EA (i:=2) (v:=A8 (K (U W))) Z B6 B6 B6 (λc a w h=>MZ results301 B8 h) (AF ⟨Z,λV k=>rfl⟩) d <| EA (i:=3) (v:=A8 b) Z B6 B6 B6 (λc a w h=>MZ results301 B8 h) (AF ⟨Z,λV k=>?y3⟩) d ?_
 case y3=>(have x:=Cb k 0;go_simp)
 refine GP 4 6 (λq o=>?_) (λq o=>?_)
 .go_simp;apply (r _ (l.below g)).mono;rintro e A ⟨hF,j⟩;obtain rfl:=hF;exact⟨(Cg.of_below g).trans (Cg.of_below j),Z,_,(l.below g).below j⟩
 go_simp;have z:((Az W _).drew.alloc (M #[C Y 0,C Y 0,C .u64 0] 275)).heap[K (U W)]?=_:=(Cx _ _ _ (Cc d)).trans d;have n:Below _ W ((Az W _).drew.alloc (M #[C Y 0,C Y 0,C .u64 0] 275)):=g.alloc g.size _;refine o.out _ _ z (λ_=>?_);refine CC 4 (λq o=>?_);go_simp;apply (r _ (l.below n)).mono;rintro e A ⟨hF,j⟩;obtain rfl:=hF;exact⟨(Cg.of_below n).trans (Cg.of_below j),Z,_,(l.below n).below j⟩
section
variable{bs:A1} {lim:Int} {li:Nat->Nat->Except (Int×Int) (List (DataW Unit)×Nat)} {ma:Nat->Nat->Except (Int×Int) (List (Lit×DataW Unit)×Nat)} {w x q:Nat}
theorem oJ:G0 bs lim li ma 1 w x q=.ok (.nil,q):=rfl
theorem oK:G0 bs lim li ma 2 w x q=.ok (.lit (.bool AQ),q):=rfl
theorem oL:G0 bs lim li ma 3 w x q=.ok (.lit (.bool AP),q):=rfl
theorem oM:G0 bs lim li ma 7 w x q=(match EJ bs lim x q []with|.error e=>.error e|.ok (l,r)=>.ok (.ptr (.lit (.string l)),r)):=rfl
theorem oN:G0 bs lim li ma 8 w x q=(match Dm bs lim x q [] 0 with|.error e=>.error e|.ok (l,r)=>.ok (.lit (.string l),r)):=rfl
theorem oO:G0 bs lim li ma 9 w x q=(match li x q with|.error e=>.error e|.ok (ds,r)=>.ok (.agg ds,r)):=rfl
theorem oP:G0 bs lim li ma 10 w x q=(match ma x q with|.error e=>.error e|.ok (ds,r)=>.ok (.map ds,r)):=rfl
theorem oQ(h:4<=so/\so<=6):G0 bs lim li ma so w x q=(match Fj so w x q with|.error e=>.error e|.ok z=>.ok (.lit (.int Y z),q)):=by rcases(show so=4\/so=5\/so=6 by omega)with rfl|rfl|rfl<;>rfl
end
theorem av{so w:J}{x:I}{p:J}(h:Fj so w x p=.ok z):-9223372036854775808<=z/\z<=9223372036854775807:=by grind [wrap64,Fj,Gf]
theorem QG:∀(k p a x q:I),CR bs lim k p a=.ok (x,q)->x<(a+1)*256^k
 |0,p,a,x,q,h=>keI
 |k+1,p,a,x,q,h=>by
  rw[CR]at h;split at h
  .cases h
  next c _ =>
  split at h
  .cases h
  have b:=QG k _ _ x q h;have d:=c.toNat_lt;have e:(a*256+c.toNat+1)*256^k<=((a+1)*256)*256^k:=P2 _ E;grind
theorem aw{w x:I}(h:w<=8/\(w=0\/g=0)/\g<18446744073709551616)(d:CR bs lim w p g=.ok (x,q)):x<18446744073709551616:=by
 have a:=QG w p g x q d;obtain⟨b,c,e⟩:=h;rcases c with rfl|rfl
 .simp at a;omega
 have:256^w<=256^8:=NP B8 b;omega
theorem oR(e:K (U W)<=lo)(hb:b<K (U W))(h:Cv k V (λj=>lo<=j/\j<K (U V)) v d)(c:Cg b V V'):Cv k V' (λj=>K (U W)<=j/\j<K (U V')) v d :=
 h.same (λj a=>⟨E,CK a.2 c.size⟩) (λj a=>c.block j a.2 E)
theorem oS(m:K (U W)<=lo)(h:Ck V lo v l):Cv (k+1) V (λj=>K (U W)<=j/\j<K (U V)) (Ai 219 v) (.ptr (.lit (.string l))):=by
 unfold Cv;refine⟨v,Z,Ba,?_⟩;rcases h.1.2 with f|⟨g,b,c,e,i,a,d⟩
 .grind
 exact AG ⟨g,b,c,e,⟨E,(Cc a)⟩,a,d⟩
theorem VJ{t:A3}{R:Ending->X->Prop}(d:u≠.run)(h:Ch V b s)(c:s.within=k+1)(e:s.within<=1000000)(H:∀a,Ch a b {s with within:=k}->Cg b V a->Leaves As f301 t R [] (settle u) a):Leaves As f301 t R [{target:=.fn (.func 293) #[],args:=#[A8 b]}] u V:=by refine UW (f:=293) (args:=#[A8 b]) d ke4 <| (oI h c e).mono ?_;grind
theorem oT(z:I->I×I×I){w:I}(h:Ch W b s)(h1:Jh s c)(bp:z c.toNat=(so,w,ar))(b2:so<=10)(hw:w<=8)(hg:w=0\/ar=0)(bo:ar<18446744073709551616)(bq:O s.bs<=200000000)(b3:s.within<=100000)(hf:f=111\/f=112)(hU:∀V,Cg b W V->U8 V)(ah:7<b)(cH:∀V,Cg b W V->Ar As f #[C Am c.toNat] V λe V'=>e=Ak (Ag #[C Y so,C Y w,C .u64 ar])/\A0 V V')(cL:¬(s.within:J)=s.depth->∀(V:X) (p n:I),Ch V b {s with pos:=p,within:=s.within+1}->Cg b W V->n<18446744073709551616->Ar As 306 #[Ag #[A8 b,.func (.func f) #[] #[]],C .u64 n] V (Qz V b {s with pos:=p,within:=s.within+1} (λV' v ds=>(∃a n c,v=T a n c)/\Cv (g+1) V' (λa7=>K (U V)<=a7/\a7<K (U V')) (Ai 221 v) (.agg ds)) (GD (DM z s.bs s.lim s.depth g (s.within+1)) n p [])))(cM:¬(s.within:J)=s.depth->∀(V:X) (p n:I),Ch V b {s with pos:=p,within:=s.within+1}->Cg b W V->n<18446744073709551616->Ar As 307 #[Ag #[A8 b,.func (.func f) #[] #[]],C .u64 n] V (Qz V b {s with pos:=p,within:=s.within+1} (λV' v es=>(∃a n c,v=T a n c)/\Cv (g+1) V' (λa7=>K (U V)<=a7/\a7<K (U V')) (Ai 223 v) (.map es)) (Gj (E8 z s.bs s.lim) (DM z s.bs s.lim s.depth g (s.within+1)) n p [] []))):Ar As 301 #[Ag #[A8 b,.func (.func f) #[] #[]]] W (QF (g+1) W b s (DM z s.bs s.lim s.depth (g+1) s.within s.pos)):=by
 obtain⟨b1,HR⟩:=CA (DM z s.bs s.lim s.depth (g+1) s.within s.pos);rw[AE HR];have t:=AE HR;rw[SB h1.1 h1.2 bp]at t;clear HR bp;have bd:=λV A=>IL (W:=V) (b:=b) (s:=s) (c:=c) A h1;have cA:∀V,Ch V b s.next->Ar As 302 #[Ag #[A8 b,.func (.func f) #[] #[]],Ag #[C Y so,C Y w,C .u64 ar]] V (Pj V b s.next (λx:I=>C .u64 x) (CR s.bs s.lim w (s.pos+1) ar)):=λV A=>Vp (W:=V) (b:=b) (s:=s.next) f so (w:=w) (g:=ar) hw hg A
 have ae:∀V,Ch V b {s.next with within:=s.within+1}->Ar As 302 #[Ag #[A8 b,.func (.func f) #[] #[]],Ag #[C Y so,C Y w,C .u64 ar]] V (Pj V b {s.next with within:=s.within+1} (λx:I=>C .u64 x) (CR s.bs s.lim w (s.pos+1) ar)):=λV A=>Vp (W:=V) (b:=b) (s:={s.next with within:=s.within+1}) f so (w:=w) (g:=ar) hw hg A;have af:D (∀x q,CR s.bs s.lim w (s.pos+1) ar=.ok (x,q)->x<18446744073709551616):=λx q hx=>aw ⟨hw,hg,bo⟩ hx;have cN:=λV p x A hx=>n8 (W:=V) (b:=b) (s:={s with pos:=p}) f so w ar (x:=x) hx A;have cB:=λV p x A hx=>ot (W:=V) (b:=b) (s:={s with pos:=p}) f (n:=x) hx A bq;have cX:=λV p x A hB hx=>ag (W:=V) (b:=b) (s:={s with pos:=p}) f (n:=x) hx A (hU V hB) ah bq;have a1:=λV A=>by have:=FJ (W:=V) (b:=b) (s:=s.next) 9 A;rwa[show((s.next.pos:J)-1)=s.pos by show(((s.pos+1:I)):J)-1=s.pos;omega]at this
 have az:∀V,Ch V b s.next->(s.within:J)=s.depth->Ar As 265 #[A8 b] V λe W'=>CV 11 s.pos e/\Cg b V W'/\∃p,Ch W' b {s with pos:=p}:=λV A z=>by have:=am (W:=V) (b:=b) (s:=s.next) A z;rwa[show((s.next.pos:J)-1)=s.pos by show(((s.pos+1:I)):J)-1=s.pos;omega]at this
 have a0:∀V,Ch V b s.next->¬(s.within:J)=s.depth->Ar As 265 #[A8 b] V λe W'=>e=Ak (Af #[])/\Ch W' b {s.next with within:=s.within+1}/\Cg b V W':=λV A z=>ak (W:=V) (b:=b) (s:=s.next) A z keh
 have HH:=G h;have bx:=Cc h.row;have be:A0 W (Az W (Aj #[A8 b,.func (.func f) #[] #[]] 218)).drew:=(Cl).drew;have a8:=G be;have bi:=G (h.below be);have bj:D ((Az W (Aj #[A8 b,.func (.func f) #[] #[]] 218)).drew.heap[K (U W)]?=H (Aj #[A8 b,.func (.func f) #[] #[]] 218)):=Cj W;have a9:D (∀(bc:A3) (V:X),(callFunc f bc).run As V=.ok (.enter f bc) V):=by show∀_ _,_;rcases hf with rfl|rfl<;>exact λbc V=>B6
 clear h h1 be hw hg bo hf hU
 go_enter_defers func301,ntmps301
 go_wp2_with fail
 refine an (λM V=>Kd W b (K (U W)) M (.func (.func f) #[] #[]) so w ar s.next V) (λM=>{tmps:=#[Ag #[A8 b,.func (.func f) #[] #[]],A8 (K (U W)),.nilIface,A8 M,AO,A9 (K (U W)) 1,.func (.func f) #[] #[],A8 (K (U W)),A8 b,C Am c.toNat,Ag #[C Y so,C Y w,C .u64 ar],AO,AO,AO,AO,AO,AO,AO,AO,AO,AO,AO,AO,AO,AO,AO,AO,AO,AO,AO,AO,AO,AO,AO,AO,AO,AO,AO,AO,AO,AO,AO,AO,AO,AO,AO,AO,AO,AO,AO,AO,AO,AO,AO,AO,AO,AO,AO,AO,AO,AO,AO,AO,AO,AO,AO,AO,AO,AO,AO,AO,AO,AO],defers:=[]}) (λbh=>?reg) ?tail
 case reg =>
  refine Ef (S:=λV=>A7 V (K (U W)) #[A8 b,.func (.func f) #[] #[]] 218) B6 ?_;have hS:=AE bj;refine EA (i:=0) (v:=A9 (K (U W)) 1) Z B6 B6 B6 (λc a w h=>MZ results301 (d:=5) B8 (c:=c) (a:=a) (w:=w) h) (AF ⟨Z,λV A=>rfl⟩) hS ?_;refine EA (i:=1) (v:=.func (.func f) #[] #[]) rfl B6 B6 B6 (λc a w h=>MZ results301 (d:=6) B8 (c:=c) (a:=a) (w:=w) h) (AF ⟨rfl,λV A=>?y1⟩) hS ?_
  case y1=>(have h2:=Cb A 1;go_simp)
  refine EA (i:=2) (v:=A8 (K (U W))) Z B6 B6 B6 (λc a w h=>MZ results301 (d:=7) B8 (c:=c) (a:=a) (w:=w) h) (AF ⟨Z,λV A=>rfl⟩) hS ?_;refine EA (i:=3) (v:=A8 b) Z B6 B6 B6 (λc a w h=>MZ results301 (d:=8) B8 (c:=c) (a:=a) (w:=w) h) (AF ⟨Z,λV A=>?y3⟩) hS ?_
  case y3=>(have h2:=Cb A 0;go_simp)
  refine GP 4 6 (λad y=>?_) (λad y=>?_)
  .go_simp;refine(bd _ bi).mono ?_;rintro e w2 ⟨rfl,bb,aq⟩;simp only[];have aj:=(aq.block _ (Cc hS) E).trans hS;have ap:=(Cg.of_below a8).trans aq;have bf:=Cc aj;refine y.out _ _ aj (λ_=>?_);clear y;refine GP 5 6 (λad y=>?_) (λad y=>?_)
   .go_simp;rw[AE a9];refine P8 (cH _ ap) ?_;rintro e w3 ⟨rfl,l⟩;simp only[];have ac:=(l.block _ bf).trans aj;have ba:=Cc ac;refine y.out _ _ ac (λ_=>?_);clear y;refine CC 6 (λad y=>?_);go_simp;have al:(Az w3 (Aj #[C Y 0,C Y 0,C .u64 0] 275)).heap[K (U W)]?=_:=(Cx _ _ _ ba).trans ac;refine y.out _ _ al (λ_=>?_);clear y;refine CC 7 (λad y=>?_);rw[Cn kek];refine IW 275 _ _ Z (K (U w3)) #[C Y so,C Y w,C .u64 ar] Z Z 275 _ (Cj w3) O5 Z BF ?_;have u:D (Kd W b (K (U W)) (K (U w3)) (.func (.func f) #[] #[]) so w ar s.next ((Az w3 (Aj #[C Y 0,C Y 0,C .u64 0] 275)).setRow (K (U w3)) #[C Y so,C Y w,C .u64 ar])) :=
     Pp (M:=K (U w3)) HH ((bb.below l).below Cl) ((ap.trans (Cg.of_below l)).trans (Cg.of_below Cl)) al ba (Cj w3)
    refine y.out _ _ u.box (λ_=>?_);clear y;refine CG ?_;exact bh _ _ u
   go_simp;have ac:(Az w2 (Aj #[C Y 0,C Y 0,C .u64 0] 275)).heap[K (U W)]?=_:=(Cx _ _ _ bf).trans aj;have au:A0 w2 (Az w2 (Aj #[C Y 0,C Y 0,C .u64 0] 275)):=Cl;have ba:=Cc ac;refine y.out _ _ ac (λ_=>?_);clear y;refine CC 5 (λad y=>?_);go_simp;rw[AE a9];refine P8 (cH _ (ap.trans (Cg.of_below au))) ?_;rintro e w3 ⟨rfl,l⟩;simp only[];have al:=(l.block _ ba).trans ac;have a5:=(l.block (K (U w2)) Ba).trans (Cj w2 (o:=(Aj #[C Y 0,C Y 0,C .u64 0] 275)));refine y.out _ _ al (λ_=>?_);clear y;refine CC 7 (λad y=>?_);rw[Cn kek];refine IW 275 _ _ Z (K (U w2)) #[C Y so,C Y w,C .u64 ar] Z Z 275 _ a5 O5 Z BF ?_;have u:D (Kd W b (K (U W)) (K (U w2)) (.func (.func f) #[] #[]) so w ar s.next (AD w3 (K (U w2)) #[C Y so,C Y w,C .u64 ar])) :=
    Pp (M:=K (U w2)) HH ((bb.below au).below l) ((ap.trans (Cg.of_below au)).trans (Cg.of_below l)) al bf a5
   refine y.out _ _ u.box (λ_=>?_);clear y;refine CG ?_;exact bh _ _ u
  go_simp;have ac:((Az W (Aj #[A8 b,.func (.func f) #[] #[]] 218)).drew.alloc (Aj #[C Y 0,C Y 0,C .u64 0] 275)).heap[K (U W)]?=_:=(Cx _ _ _ (Cc hS)).trans hS;have au:A0 W ((Az W (Aj #[A8 b,.func (.func f) #[] #[]] 218)).drew.alloc (Aj #[C Y 0,C Y 0,C .u64 0] 275)):=a8.alloc a8.size _;have bn:((Az W (Aj #[A8 b,.func (.func f) #[] #[]] 218)).drew.alloc (Aj #[C Y 0,C Y 0,C .u64 0] 275)).heap[K (U W)+1]?=H (Aj #[C Y 0,C Y 0,C .u64 0] 275):=by have:=Cj (Az W (Aj #[A8 b,.func (.func f) #[] #[]] 218)).drew (o:=(Aj #[C Y 0,C Y 0,C .u64 0] 275));simp_all
  have bt:=G (HH.below au);refine y.out _ _ ac (λ_=>?_);clear y;refine CC 4 (λad y=>?_);go_simp;refine(bd _ bt).mono ?_;rintro e w2 ⟨rfl,bb,aq⟩;simp only[];have aj:=(aq.block _ (Cc ac) E).trans ac;have bm:=(aq.block _ (Cc bn) E).trans bn;have ap:=(Cg.of_below au).trans aq;refine y.out _ _ aj (λ_=>?_);clear y;refine CC 5 (λad y=>?_);go_simp;rw[AE a9];refine P8 (cH _ ap) ?_;rintro e w3 ⟨rfl,l⟩;simp only[];have al:=(l.block _ (Cc aj)).trans aj;have a5:=(l.block _ (Cc bm)).trans bm;refine y.out _ _ al (λ_=>?_);clear y;refine CC 7 (λad y=>?_);rw[Cn kek];refine IW 275 _ _ Z (K (U W)+1) #[C Y so,C Y w,C .u64 ar] Z Z 275 _ a5 O5 Z BF ?_;have u:D (Kd W b (K (U W)) (K (U W)+1) (.func (.func f) #[] #[]) so w ar s.next (AD w3 (K (U W)+1) #[C Y so,C Y w,C .u64 ar])) :=
   Pp (M:=(K (U W)+1)) HH (bb.below l) (ap.trans (Cg.of_below l)) al E a5
  refine y.out _ _ u.box (λ_=>?_);clear y;refine CG ?_;exact bh _ _ u
 case tail =>
  intro M V hT;have u:=G hT;clear hT bj bi a8 HH cH bd a9;have r:=Cb u.box 0;have j:=Cb u.box 1;have m0:=Cb u.hd 0;have m1:=Cb u.hd 1;have m2:=Cb u.hd 2;have bz:so=0\/so=1\/so=2\/so=3\/so=4\/so=5\/so=6\/so=7\/so=8\/so=9\/so=10:=E;rcases bz with k|k|k|k|k|k|k|k|k|k|k
  all_goals
   first|have e0:((so:J)==0)=AP:=by rw[k];rfl|have e0:((so:J)==0)=AQ:=BV
   first|have e2:((so:J)==2)=AP:=by rw[k];rfl|have e2:((so:J)==2)=AQ:=BV
   first|have e3:((so:J)==3)=AP:=by rw[k];rfl|have e3:((so:J)==3)=AQ:=BV
   first|have e4:((so:J)==4)=AP:=by rw[k];rfl|have e4:((so:J)==4)=AQ:=BV
   first|have e5:((so:J)==5)=AP:=by rw[k];rfl|have e5:((so:J)==5)=AQ:=BV
   first|have e6:((so:J)==6)=AP:=by rw[k];rfl|have e6:((so:J)==6)=AQ:=BV
   first|have e7:((so:J)==7)=AP:=by rw[k];rfl|have e7:((so:J)==7)=AQ:=BV
   first|have e8:((so:J)==8)=AP:=by rw[k];rfl|have e8:((so:J)==8)=AQ:=BV
   first|have e9:((so:J)==9)=AP:=by rw[k];rfl|have e9:((so:J)==9)=AQ:=BV
   first|have bu:((so:J)==10)=AP:=by rw[k];rfl|have bu:((so:J)==10)=AQ:=BV
  .rw[Cn k]at t;subst t;have bk:=a1 V u.src;clear k a1 cA ae cN cB cX az a0 cL cM
   go_wp2_with(first
    |(go_at_call 271;refine bk.mono ?_;clear bk;rintro e w7 ⟨hF,rfl⟩;obtain rfl:=hF))
   exact⟨u.but,Z,_,u.src⟩
  all_goals
   rw[Ci E]at t
   first
   |have h9:9<=so:=by omega
    clear h9;by_cases ax:(s.within:J)=s.depth
    .rw[Cn ⟨E,ax⟩]at t;subst t;have cE:=az V u.src ax;clear k a1 cA ae cN cB cX az a0 cL cM
     go_wp2_with(first
      |(go_at_call 265;refine cE.mono ?_;clear cE;rintro e w7 ⟨hF,bv,bw⟩;obtain rfl:=hF))
     exact⟨u.but.trans bv,Z,bw⟩
    rw[Ci (λhh=>ax hh.2)]at t;have cE:=a0 V u.src ax;clear a1 cA cN cB cX az a0;rcases ha:CR s.bs s.lim w (s.pos+1) ar with er|xq
    .rw[ha]at t;simp only[]at t;subst t;obtain⟨en,pl⟩:=er;rw[ha]at ae;clear k cL cM af
     go_wp2_with(first
      |(go_at_call 265;refine cE.mono ?_;clear cE;rintro e w4 ⟨rfl,a3,a2⟩;have F:=G (u.step a3 a2);clear u r j m0 m1 m2 a2 a3;have r:=Cb F.box 0;have j:=Cb F.box 1;have m0:=Cb F.hd 0;have m1:=Cb F.hd 1;have m2:=Cb F.hd 2;have L:=ae w4 F.src;clear ae)
      |(go_at_call 302;refine L.mono ?_;clear L;rintro e w5 ⟨N,rfl,pz,bg⟩))
     exact VJ Ba bg Z B9 (λB a4 ah=>⟨(F.but.trans N).trans ah,Z,_,a4⟩)
    obtain⟨x,q⟩:=xq;rw[ha]at t ae;simp only[]at t;rw[k]at t;have ay:=af.out x q ha
    first
    |rw[oO]at t
     obtain⟨ao,HZ⟩:=CA (GD (DM z s.bs s.lim s.depth g (s.within+1)) x q []);have Q:=λB (hs:Ch B b {s with pos:=q,within:=s.within+1}) (hb:Cg b W B)=>cL ax B q x hs hb ay
    |rw[oP]at t
     obtain⟨ao,HZ⟩:=CA (Gj (E8 z s.bs s.lim) (DM z s.bs s.lim s.depth g (s.within+1)) x q [] []);have Q:=λB (hs:Ch B b {s with pos:=q,within:=s.within+1}) (hb:Cg b W B)=>cM ax B q x hs hb ay
    rw[AE HZ]at t Q;clear k cL cM af ha HZ;rcases ao with⟨en,pl⟩|⟨ds,b0⟩
    all_goals
     simp only[]at t;subst t
     go_wp2_with(first
      |(go_at_call 265;refine cE.mono ?_;clear cE;rintro e w4 ⟨rfl,a3,a2⟩;have F:=G (u.step a3 a2);clear u r j m0 m1 m2 a2 a3;have r:=Cb F.box 0;have j:=Cb F.box 1;have m0:=Cb F.hd 0;have m1:=Cb F.hd 1;have m2:=Cb F.hd 2;have L:=ae w4 F.src;clear ae)
      |(go_at_call 302;refine L.mono ?_;clear L;rintro e w5 ⟨N,rfl,ab⟩;have m:=G (F.step ab N);clear F r j m0 m1 m2 N ab;have r:=Cb m.box 0;have j:=Cb m.box 1;have m0:=Cb m.hd 0;have m1:=Cb m.hd 1;have m2:=Cb m.hd 2;have R:=Q w5 m.src m.but;clear Q)
      |(go_at_call 306;refine R.mono ?_;clear R;rintro e w6 ⟨aa,ai⟩;first|(obtain⟨⟨v6,rfl,⟨a6,n6,c6,rfl⟩,bl⟩,P⟩:=ai)|(obtain⟨rfl,P⟩:=ai))
      |(go_at_call 307;refine R.mono ?_;clear R;rintro e w6 ⟨aa,ai⟩;first|(obtain⟨⟨v6,rfl,⟨a6,n6,c6,rfl⟩,bl⟩,P⟩:=ai)|(obtain⟨rfl,P⟩:=ai)))
     first
     |exact VJ Ba P.choose_spec Z B9 (λB a4 ah=>⟨(m.but.trans aa).trans ah,Z,_,a4⟩)
     |exact VJ Ba P Z B9 (λB a4 ah=>⟨_,Qw results301,(m.but.trans aa).trans ah,⟨_,_,Z,oR m.but.size bx bl ah⟩,a4⟩)
   |rw[Ci E]at t
    clear a1 ae az a0 cL cM;have L:=cA V u.src;clear cA;rcases ha:CR s.bs s.lim w (s.pos+1) ar with er|xq
    .rw[ha]at t L;simp only[]at t;subst t;obtain⟨en,pl⟩:=er;clear k cN cB cX af
     go_wp2_with(first
      |(go_at_call 302;refine L.mono ?_;clear L;rintro e w5 ⟨N,rfl,pz,bg⟩))
     exact⟨u.but.trans N,Z,pz,bg⟩
    obtain⟨x,q⟩:=xq;rw[ha]at t L;simp only[]at t;have ay:=af.out x q ha
    first
    |have h9:so<=3:=by omega
     clear h9;rw[k]at t
     first|rw[oJ]at t|rw[oK]at t|rw[oL]at t
     subst t;clear k cN cB cX af ha
     go_wp2_with(first
      |(go_at_call 302;refine L.mono ?_;clear L;rintro e w5 ⟨N,rfl,ab⟩;have m:=G (u.step ab N);clear u r j m0 m1 m2 N ab;have r:=Cb m.box 0;have j:=Cb m.box 1;have m0:=Cb m.hd 0;have m1:=Cb m.hd 1;have m2:=Cb m.hd 2))
     exact⟨_,Qw results301,m.but,⟨_,_,Z,Z⟩,m.src⟩
    |have h9:7<=so:=by omega
     clear h9;rw[k]at t
     first
     |rw[oM]at t
      obtain⟨ao,HZ⟩:=CA (EJ s.bs s.lim x q []);have Q:=λB (hs:Ch B b {s with pos:=q}) (_:Cg b W B)=>cB B q x hs ay
     |rw[oN]at t
      obtain⟨ao,HZ⟩:=CA (Dm s.bs s.lim x q [] 0);have Q:=λB (hs:Ch B b {s with pos:=q}) (hb:Cg b W B)=>cX B q x hs hb ay
     rw[AE HZ]at t Q;clear k cN cB cX af ha HZ;rcases ao with⟨en,pl⟩|⟨b4,b0⟩
     all_goals
      simp only[]at t;subst t
      go_wp2_with(first
       |(go_at_call 302;refine L.mono ?_;clear L;rintro e w5 ⟨N,rfl,ab⟩;have m:=G (u.step ab N);clear u r j m0 m1 m2 N ab;have r:=Cb m.box 0;have j:=Cb m.box 1;have m0:=Cb m.hd 0;have m1:=Cb m.hd 1;have m2:=Cb m.hd 2;have R:=Q w5 m.src m.but;clear Q)
       |(go_at_call 304;refine R.mono ?_;clear R;rintro e w6 ⟨aa,ai⟩;first|(obtain⟨⟨v6,rfl,o6,b6,a6,n6,c6,rfl⟩,P⟩:=ai)|(obtain⟨rfl,P⟩:=ai))
       |(go_at_call 305;refine R.mono ?_;clear R;rintro e w6 ⟨aa,rfl,P⟩))
      first
      |exact⟨m.but.trans aa,Z,P⟩
      |exact⟨_,Qw results301,m.but.trans aa,⟨_,_,Z,Z⟩,P⟩
      |exact⟨_,Qw results301,m.but.trans aa,⟨_,_,Z,oS (AY m.but.size) ⟨o6,b6,_,_,_,Z⟩⟩,P⟩
    |rw[oQ E]at t
     have Q:=λB (hs:Ch B b {s with pos:=q})=>cN B q x hs ay;obtain⟨ao,HZ⟩:=CA (Fj so w x q);rw[AE HZ]at t Q;clear k cN cB cX af ha;rcases ao with⟨en,pl⟩|b5
     all_goals
      simp only[]at t;subst t
      try have br:=G (av HZ)
      clear HZ
      go_wp2_with(first
       |(go_at_call 302;refine L.mono ?_;clear L;rintro e w5 ⟨N,rfl,ab⟩;have m:=G (u.step ab N);clear u r j m0 m1 m2 N ab;have r:=Cb m.box 0;have j:=Cb m.box 1;have m0:=Cb m.hd 0;have m1:=Cb m.hd 1;have m2:=Cb m.hd 2;have R:=Q w5 m.src;clear Q)
       |(go_at_call 303;refine R.mono ?_;clear R;rintro e w6 ⟨aa,rfl,P⟩))
      first
      |exact⟨m.but.trans aa,Z,P⟩
      |exact⟨_,Qw results301,m.but.trans aa,⟨_,_,Z,Z,br⟩,P⟩
structure Hv(b m:Nat)(W W':World):Prop where
 os:W'.os=W.os
 tape:W'.tape=W.tape
 output:W'.output=W.output
 size:W.heap.size<=W'.heap.size
 block:∀k,k<W.heap.size->k≠b->k≠m->W'.heap[k]?=W.heap[k]?
theorem Hv.of1(h:Cg b W W'):Hv b m W W':=⟨h.os,h.tape,h.output,h.size,λk a c _=>h.block k a c⟩
theorem Hv.of2(h:Cg m W W'):Hv b m W W':=⟨h.os,h.tape,h.output,h.size,λk a _ c=>h.block k a c⟩
theorem Hv.trans{A C:X}(h:Hv b m A B)(k:Hv b m B C):Hv b m A C :=
 ⟨k.os.trans h.os,k.tape.trans h.tape,k.output.trans h.output,Cy h.size k.size,λi d a c=>(k.block i Bm a c).trans (h.block i d a c)⟩
theorem Ch.off(h:Ch V b s)(k:m≠b)(hi:∀g off,s.bs≠[]->s.ia=H ⟨g,off,Ao⟩->g≠m)(d:Cg m V V'):Ch V' b s :=
 ⟨(d.block b (Cc h.row) (Ne.symm k)).trans h.row,λi f=>by obtain⟨g,off,a,j,c⟩:=h.inp i f;exact⟨g,off,a,j,(JN (d.block g (FF c) (hi g off (λe=>by simp[e]at f) a))).trans c⟩,h.len,h.le⟩
theorem ES.but(h:ES V m ks)(d:m≠b)(a:Cg b V V'):ES V' m ks :=
 h.kept (row:=H b) ⟨a.os,a.tape,a.output,a.size,λk c f=>a.block k c (λe=>f (by rw[e]))⟩ (λe=>d (by injection e))
def ax(W:Ap)(b m:AH)(s:Cs)(ks:AJ A1)(r:A5 A1)(e:Ending)(W':Ap):Prop :=
 Hv b m W W'/\match r with
 |.ok (l,p)=>e=Ak (Ae ⟨Aw l⟩)/\Ch W' b {s with pos:=p}/\ES W' m (l::ks)
 |.error (en,pl)=>CV en pl e/\∃p,Ch W' b {s with pos:=p}
theorem SD:∀(n p b:I) (a l:A1) (r:I),Dm bs lim n p a b=.ok (l,r)->O l=O a+n/\r=p+n
 |0,p,b,a,l,r,h=>kfc
 |n+1,p,b,a,l,r,h=>by
  rw[Dm]at h;split at h
  .cases h
  split at h
  .cases h
  split at h
  .cases h
  have:=SD n _ _ _ l r h;rw[Dc]at this;simp at this;omega
theorem oU(hd:I->I×I×I){w:I}(h:Ch W b s)(h1:Jh s c)(hk:ES W m ks)(bl:m≠b)(bj:∀bd off,s.bs≠[]->s.ia=H ⟨bd,off,Ao⟩->bd≠m)(bt:O ks<1000000000)(bi:hd c.toNat=(so,w,ar))(hw:w<=8)(hg:w=0\/ar=0)(bh:ar<18446744073709551616)(bu:O s.bs<=200000000)(hf:f=111\/f=112)(hU:∀V,Cg b W V->U8 V)(bq:7<b)(cH:∀V,Cg b W V->Ar As f #[C Am c.toNat] V λe V'=>e=Ak (Ag #[C Y so,C Y w,C .u64 ar])/\A0 V V'):Ar As 309 #[Ag #[A8 b,.func (.func f) #[] #[]],.map (H m)] W (ax W b m s ks (E8 hd s.bs s.lim ks s.pos)):=by
 obtain⟨bw,HR⟩:=CA (E8 hd s.bs s.lim ks s.pos);rw[AE HR];have j:=AE HR;unfold E8 at j;rw[h1.1]at j;simp only[]at j;rw[Ci h1.2,bi]at j;simp only[]at j;clear HR bi;have au:=λV d=>IL (W:=V) (b:=b) d h1;have cA:∀V,Ch V b _->Ar _ _ _ V (Pj V b _ _ (CR s.bs s.lim w (s.pos+1) ar)):=λV d=>Vp (s:=s.next) f so hw hg d;have ao:D (∀x q,CR s.bs s.lim w (s.pos+1) ar=.ok (x,q)->x<18446744073709551616):=λx q hx=>aw ⟨hw,hg,bh⟩ hx;have cX:∀(V:X) (p x:I),Ch V b _->Cg b W V->x<18446744073709551616->Ar _ _ _ V (Pj V b _ _ (Dm s.bs s.lim x p [] 0)):=λV p x d hB hx=>ag (s:={s with pos:=p}) f hx d (hU V hB) bq bu;have aq:=λV d=>by have:=FJ (W:=V) (b:=b) (s:=s.next) 9 d;rwa[show((s.next.pos:J)-1)=s.pos by show(((s.pos+1)):J)-1=s.pos;omega]at this
 have ak:∀(V:X) (p:I),Ch V b _->Ar _ _ _ V λe W'=>CV 12 (p-1) e/\W'=V:=λV p d=>FJ (s:={s with pos:=p}) 12 d;have a5:D (∀V,Cg b W V->ES V m ks):=λV d=>hk.but bl d;have bn:D (∀V V' p,Ch V b _->Cg m V V'->Ch V' b {s with pos:=p}):=λV V' p d hB=>d.off bl bj hB;have HH:=G h;have bx:=Cc h.row;have av:Below _ W (Az W (M #[A8 b,.func (.func f) #[] #[]] 218)).drew:=(Cl).drew;have ae:=G av;have a7:=G (h.below av);have a8:D ((Az W _).drew.heap[K (U W)]?=H (M #[A8 b,.func (.func f) #[] #[]] 218)):=Cj W;have af:D (∀(ap:A3) (V:X),(callFunc f ap).run As V=.ok (.enter f ap) V):=by show∀_ _,_;rcases hf with rfl|rfl<;>exact λap V=>B6
 clear h h1 av hw hg bh hf hU hk bj;go_enter func309,ntmps309
 go_wp2_with fail
 refine an (λaa V=>Kd W b (K (U W)) aa (.func (.func f) #[] #[]) so w ar s.next V) (λaa=>{tmps:=#[Ag #[A8 b,.func (.func f) #[] #[]],.map (H m),A8 (K (U W)),AO,Ae ⟨#[]⟩,A8 aa,AO,A9 (K (U W)) 1,.func (.func f) #[] #[],A8 (K (U W)),A8 b,C Am c.toNat,Ag #[C Y so,C Y w,C .u64 ar],AO,AO,AO,AO,AO,AO,AO,AO,AO,AO,AO,AO,AO,AO,AO,AO,AO,AO,AO],defers:=[]}) (λa3=>?reg) ?tail
 case reg =>
  apply Ef (S:=λV=>A7 V (K (U W)) #[A8 b,.func (.func f) #[] #[]] 218) B6;have A:=AE a8;refine EA (i:=0) (v:=A9 (K (U W)) 1) rfl B6 B6 B6 (λ_ _ _ h=>h) (AF ⟨rfl,λV d=>rfl⟩) A <| EA (i:=1) (v:=.func (.func f) #[] #[]) rfl B6 B6 B6 (λ_ _ _ h=>h) (AF ⟨rfl,λV d=>?y1⟩) A ?_
  case y1=>(have h2:=Cb d 1;go_simp)
  refine EA (i:=2) (v:=A8 (K (U W))) Z B6 B6 B6 (λ_ _ _ h=>h) (AF ⟨Z,λV d=>rfl⟩) A <| EA (i:=3) (v:=A8 b) Z B6 B6 B6 (λ_ _ _ h=>h) (AF ⟨Z,λV d=>?y3⟩) A ?_
  case y3=>(have h2:=Cb d 0;go_simp)
  refine GP 4 6 (λn a=>?_) (λn a=>?_)
  .go_simp;apply (au _ a7).mono;rintro e r ⟨rfl,am,P⟩;simp only[];have B:=(P.block _ (Cc A) E).trans A;have N:=(Cg.of_below ae).trans P;have a0:=Cc B;refine a.out _ _ B (λ_=>?_);clear a;refine GP 5 6 (λn a=>?_) (λn a=>?_)
   .go_simp;rw[AE af];apply P8 (cH _ N);rintro e w3 ⟨rfl,t⟩;simp only[];have y:=(t.block _ a0).trans B;have al:=Cc y;refine a.out _ _ y (λ_=>?_);clear a;refine CC 6 (λn a=>?_);go_simp;have F:(Az w3 (M #[C Y 0,C Y 0,C .u64 0] 275)).heap[K (U W)]?=_:=(Cx _ _ _ al).trans y;refine a.out _ _ F (λ_=>?_);clear a;refine CC 7 (λn a=>?_);rw[Cn kek];refine IW _ _ _ Z _ _ Z Z _ _ (Cj w3) O5 Z BF ?_;have k:D (Kd W b _ _ _ so w ar _ _) :=
     Pp HH ((am.below t).below Cl) ((N.trans (Cg.of_below t)).trans (Cg.of_below Cl)) F al (Cj w3)
    refine a.out _ _ k.box (λ_=>?_);clear a;exact CG <| a3 _ _ k
   go_simp;have y:(Az r (M #[C Y 0,C Y 0,C .u64 0] 275)).heap[K (U W)]?=_:=(Cx _ _ _ a0).trans B;have R:Below _ r (Az r (M #[C Y 0,C Y 0,C .u64 0] 275)):=Cl;have al:=Cc y;refine a.out _ _ y (λ_=>?_);clear a;refine CC 5 (λn a=>?_);go_simp;rw[AE af];refine P8 (cH _ (N.trans (Cg.of_below R))) ?_;rintro e w3 ⟨rfl,t⟩;simp only[];have F:=(t.block _ al).trans y;have ad:=(t.block _ Ba).trans (Cj r (o:=(M _ 275)));refine a.out _ _ F (λ_=>?_);clear a;refine CC 7 (λn a=>?_);rw[Cn kek];apply IW 275 _ _ Z (K (U r)) #[C Y so,C Y w,C .u64 ar] Z Z 275 _ ad O5 Z BF;have k:D (Kd W b _ _ _ so w ar _ _) :=
    Pp HH ((am.below R).below t) ((N.trans (Cg.of_below R)).trans (Cg.of_below t)) F a0 ad
   refine a.out _ _ k.box (λ_=>?_);clear a;exact CG <| a3 _ _ k
  go_simp;have y:((Az W _).drew.alloc (M #[C Y 0,C Y 0,C .u64 0] 275)).heap[K (U W)]?=_:=(Cx _ _ _ (Cc A)).trans A;have R:Below _ W ((Az W _).drew.alloc (M #[C Y 0,C Y 0,C .u64 0] 275)):=ae.alloc ae.size _;have bg:((Az W (M #[A8 b,.func (.func f) #[] #[]] 218)).drew.alloc (M #[C Y 0,C Y 0,C .u64 0] 275)).heap[K (U W)+1]?=H (M #[C Y 0,C Y 0,C .u64 0] 275):=by have:=Cj (Az W (M #[A8 b,.func (.func f) #[] #[]] 218)).drew (o:=(M #[C Y 0,C Y 0,C .u64 0] 275));simp_all
  have bo:=G (HH.below R);refine a.out _ _ y (λ_=>?_);clear a;refine CC 4 (λn a=>?_);go_simp;apply (au _ bo).mono;rintro e r ⟨rfl,am,P⟩;simp only[];have B:=(P.block _ (Cc y) E).trans y;have bf:=(P.block _ (Cc bg) E).trans bg;have N:=(Cg.of_below R).trans P;refine a.out _ _ B (λ_=>?_);clear a;refine CC 5 (λn a=>?_);go_simp;rw[AE af];apply P8 (cH _ N);rintro e w3 ⟨rfl,t⟩;simp only[];have F:=(t.block _ (Cc B)).trans B;have ad:=(t.block _ (Cc bf)).trans bf;refine a.out _ _ F (λ_=>?_);clear a;refine CC 7 (λn a=>?_);rw[Cn kek];apply IW 275 _ _ Z (K (U W)+1) #[C Y so,C Y w,C .u64 ar] Z Z 275 _ ad O5 Z BF;have k:D (Kd W b _ _ _ so w ar _ _) :=
   Pp HH (am.below t) (N.trans (Cg.of_below t)) F E ad
  refine a.out _ _ k.box (λ_=>?_);clear a;exact CG <| a3 _ _ k
 case tail =>
  intro aa V hT;have k:=G hT;clear hT a8 a7 ae HH cH au af;have k0:=Cb k.box 0;have k1:=Cb k.box 1;have m0:=Cb k.hd 0;have m1:=Cb k.hd 1;have m2:=Cb k.hd 2;by_cases l:so=8
  .have e8:((so:J)==8)=AP:=by rw[l];rfl
   have bp:((so:J) != 8)=AQ:=by rw[l];rfl
   rw[Cn l]at j;clear aq l
   go_wp2_with fail
   apply Ef (S:=λV9=>A7 V9 (K (U W)) #[A8 b,.func (.func f) #[] #[]] 218/\A7 V9 aa #[C Y so,C Y w,C .u64 ar] 275) B6;have z:=G (k.step (k.src.below (Cq _ _).drew) (Cg.of_below (Cq _ _).drew));change wpAnyH _ _ _ _ _ _ _ _ (World.drew V);refine EA (i:=0) (v:=Ag #[A8 b,.func (.func f) #[] #[]]) rfl B6 B6 B6 (λ_ _ _ h=>h) (AF ⟨rfl,λV9 d=>?y0⟩) ⟨z.box,z.hd⟩ ?_
   case y0=>(have c0:=Cb d.1 0;have c1:=Cb d.1 1;go_simp)
   refine EA (i:=1) (v:=Ag #[A8 b,.func (.func f) #[] #[]]) rfl B6 B6 B6 (λ_ _ _ h=>h) (AF ⟨rfl,λV9 d=>?y1⟩) ⟨z.box,z.hd⟩ ?_
   case y1=>(have c0:=Cb d.1 0;have c1:=Cb d.1 1;go_simp)
   refine EA (i:=2) (v:=Ag #[C Y so,C Y w,C .u64 ar]) Z B6 B6 B6 (λ_ _ _ h=>h) (AF ⟨Z,λV9 d=>?y2⟩) ⟨z.box,z.hd⟩ ?_
   case y2=>(have c0:=Cb d.2 0;have c1:=Cb d.2 1;have c2:=Cb d.2 2;go_simp)
   have a9:=cA _ z.src;clear cA k k0 k1 m0 m1 m2;refine CC 3 (λn a=>?_);go_simp;apply a9.mono;clear a9;rintro e w5 ⟨ay,ab⟩;rcases ha:CR s.bs s.lim w (s.pos+1) ar with er|xq
   .rw[ha]at j ab;simp only[]at j;subst j;obtain⟨en,pl⟩:=er;obtain⟨hF,pz,a2⟩:=(show CV en pl e/\∃p,Ch w5 b {s with pos:=p}from ab)
    obtain rfl:=hF;exact⟨Z,.of1 (z.but.trans ay),Z,pz,a2⟩
   obtain⟨x,q⟩:=xq;rw[ha]at j ab;simp only[]at j;have bv:=ao.out x q ha;obtain⟨rfl,be⟩:=(show e=Ak (.int _ x)/\Ch w5 b {s with pos:=q}from ab)
   have L:=G (z.step be ay);simp only[];refine a.out _ _ ⟨L.box,L.hd⟩ (λ_=>?_);clear a;have bc:=cX w5 q x L.src L.but bv;clear cX ao ha ab ay be z;refine CC 4 (λn a=>?_);go_simp;apply bc.mono;clear bc;rintro e w6 ⟨az,ac⟩;rcases hz:Dm s.bs s.lim x q [] 0 with er|lr
   .rw[hz]at j ac;simp only[]at j;subst j;obtain⟨en,pl⟩:=er;obtain⟨hF,pz,a2⟩:=(show CV en pl e/\∃p,Ch w6 b {s with pos:=p}from ac)
    obtain rfl:=hF;exact⟨Z,.of1 (L.but.trans az),Z,pz,a2⟩
   obtain⟨bm,a4⟩:=lr;rw[hz]at j ac;simp only[]at j;have bk:=SD _ _ _ _ _ _ hz;simp only[Je,Gw]at bk;obtain⟨rfl,a1⟩:=(show e=Ak (.string _)/\Ch w6 b {s with pos:=a4}from ac)
   have u:=G (L.step a1 az);have a6:D (O bm<=1000000000):=by show _<=_;have h1:a4<=O s.bs:=a1.le;omega
   simp only[];refine a.out _ _ ⟨u.box,u.hd⟩ (λ_=>?_);clear a hz bk ac az a1 L;refine CC 5 (λn a=>?_);go_simp;refine a.out _ _ ⟨u.box,u.hd⟩ (λ_=>?_);clear a;refine CG ?_;have k0:=Cb u.box 0;by_cases g:bm∈ks
   .rw[Cn g]at j;subst j;have cK:=ah (a5 w6 u.but) g a6;clear g
    go_wp2_with(first
     |(go_at_call 294;apply cK.mono;clear cK k0;rintro e w7 ⟨rfl,Q⟩;have ai:=G (u.step (u.src.below Q) (Cg.of_below Q));clear u Q;have k0:=Cb ai.box 0;have bb:=ak w7 a4 ai.src;clear ak)
     |(go_at_call 271;apply bb.mono;clear bb;rintro e w8 ⟨hF,rfl⟩;obtain rfl:=hF))
    exact⟨Z,.of1 ai.but,Z,_,ai.src⟩
   rw[Ci g]at j;subst j;have cK:=aj (a5 w6 u.but) g bt a6;clear g ak
   go_wp2_with(first
    |(go_at_call 294;apply cK.mono;clear cK k0;rintro e w7 ⟨rfl,br,Q⟩))
   go_ret;exact⟨(Hv.of1 u.but).trans (Hv.of2 Q),Z,bn _ _ _ u.src Q,br⟩
  have e8:((so:J)==8)=AQ:=B7;have bp:((so:J) != 8)=AP:=B7;rw[Ci l]at j;subst j;have ba:=aq V k.src;clear l aq cA cX ak ao
  go_wp2_with(first
   |(go_at_call 271;apply ba.mono;clear ba;rintro e w7 ⟨hF,rfl⟩;obtain rfl:=hF))
  exact⟨Z,.of1 k.but,Z,_,k.src⟩
theorem ay(r:J)(h:Ch W b s)(q:∀V,Ch V b s->Ar As 270 #[A8 b] V λe k=>CV r s.pos e/\A0 V k):Ar As 309 #[Ag #[A8 b,.func (.func f) #[] #[]],.map (H m)] W λe k=>Cg b W k/\CV r s.pos e/\∃p,Ch k b {s with pos:=p}:=by
 have j:=G h;have t:Below _ W (Az W (M #[A8 b,.func (.func f) #[] #[]] 218)).drew:=(Cl).drew;have c:=G t;have u:D ((Az W _).drew.heap[K (U W)]?=H (M #[A8 b,.func (.func f) #[] #[]] 218)):=Cj W;clear h t;go_enter func309,ntmps309
 go_wp2_with fail
 apply Ef (S:=λV=>A7 V (K (U W)) #[A8 b,.func (.func f) #[] #[]] 218) B6;have a:=AE u;refine EA (i:=0) (v:=A9 (K (U W)) 1) rfl B6 B6 B6 (λ_ _ _ h=>h) (AF ⟨rfl,λV g=>rfl⟩) a <| EA (i:=1) (v:=.func (.func f) #[] #[]) rfl B6 B6 B6 (λ_ _ _ h=>h) (AF ⟨rfl,λV g=>?y1⟩) a ?_
 case y1=>(have w:=Cb g 1;go_simp)
 refine EA (i:=2) (v:=A8 (K (U W))) Z B6 B6 B6 (λ_ _ _ h=>h) (AF ⟨Z,λV g=>rfl⟩) a <| EA (i:=3) (v:=A8 b) Z B6 B6 B6 (λ_ _ _ h=>h) (AF ⟨Z,λV g=>?y3⟩) a ?_
 case y3=>(have w:=Cb g 0;go_simp)
 refine GP 4 6 (λo l=>?_) (λo l=>?_)
 .go_simp;apply (q _ (j.below c)).mono;rintro e y ⟨hF,d⟩;obtain rfl:=hF;exact⟨Z,(Cg.of_below c).trans (Cg.of_below d),Z,_,(j.below c).below d⟩
 go_simp;have x:((Az W _).drew.alloc (M #[C Y 0,C Y 0,C .u64 0] 275)).heap[K (U W)]?=_:=(Cx _ _ _ (Cc a)).trans a;have n:Below _ W ((Az W _).drew.alloc (M #[C Y 0,C Y 0,C .u64 0] 275)):=c.alloc c.size _;refine l.out _ _ x (λ_=>?_);clear l;refine CC 4 (λo l=>?_);go_simp;apply (q _ (j.below n)).mono;rintro e y ⟨hF,d⟩;obtain rfl:=hF;exact⟨Z,(Cg.of_below n).trans (Cg.of_below d),Z,_,(j.below n).below d⟩
structure N7(f:Nat)(hd:Nat->Nat×Nat×Nat)(b:Nat)(W:World):Prop where
 fn:f=111\/f=112
 so:∀c,c<256->(hd c).1<=10
 fit:∀c,c<256->(hd c).2.1<=8/\((hd c).2.1=0\/(hd c).2.2=0)/\(hd c).2.2<18446744073709551616
 call:∀(c:UInt8) (V:World),Cg b W V->Calls prog f #[.int .u8 c.toNat] V λe V'=>e=.returned (.agg #[.int .i64 (hd c.toNat).1,.int .i64 (hd c.toNat).2.1,.int .u64 (hd c.toNat).2.2])/\A0 V V'
theorem N7.but(h:N7 f hd b W)(d:Cg b W V):N7 f hd b V:=⟨h.fn,h.so,h.fit,λc a e=>h.call c a (d.trans e)⟩
theorem oV(h:Ch W b s)(p:ES W m ks)(t:m≠b)(o:∀g off,s.bs≠[]->s.ia=H ⟨g,off,Ao⟩->g≠m)(q:O ks<1000000000)(r:O s.bs<=200000000)(n:∀V,Cg b W V->U8 V)(l:7<b)(d:N7 f hd b W):Ar As 309 #[Ag #[A8 b,.func (.func f) #[] #[]],.map (H m)] W (ax W b m s ks (E8 hd s.bs s.lim ks s.pos)):=by
 rcases Ji h with a|a|⟨c,a⟩
 .have e:E8 hd s.bs s.lim ks s.pos=.error (9,s.pos):=by unfold E8;rw[Hm (by have:s.pos=O s.bs:=a;omega)]
  rw[e];apply (ay 9 h (λV k=>Ka k a)).mono;rintro e w ⟨a,i,j⟩;exact⟨.of1 a,i,j⟩
 .have e:E8 hd s.bs s.lim ks s.pos=.error (8,s.pos):=by unfold E8;rw[D3 a.1];simp only[];rw[Cn a.2]
  rw[e];apply (ay 8 h (λV k=>Kb k a)).mono;rintro e w ⟨a,i,j⟩;exact⟨.of1 a,i,j⟩
 exact oU hd h a p t o q Z (d.fit _ c.toNat_lt).1 (d.fit _ c.toNat_lt).2.1 (d.fit _ c.toNat_lt).2.2 r d.fn n l (d.call c)
def Jn(k:AH)(V:Ap)(F:AH->Prop)(xs:AJ Aq)(es:AJ (Lit×AM Unit)):Prop :=
 ∀(i:AH) (key:Lit) (d:A2),es[i]?=An (key,d)->∃l x,key=.string l/\xs[2*i]?=An (Ae ⟨Aw l⟩)/\xs[2*i+1]?=An x/\Cv k V F x d
theorem Jn.same{G:I->Prop}(h:Jn k V F xs es)(f:∀k,F k->G k)(j:∀k,F k->V'.heap[k]?=V.heap[k]?):Jn k V' G xs es:=λi key d g=>by obtain⟨l,x,a,b,c,e⟩:=h i key d g;exact⟨l,x,a,b,c,e.same f j⟩
theorem Cg.trans'{A C:X}(h:Cg b A B)(k:Hv b m B C)(d:K (U A)<=m:=by omega):Cg b A C :=
 ⟨k.os.trans h.os,k.tape.trans h.tape,k.output.trans h.output,Cy h.size k.size,λi c a=>(k.block i Bm a E).trans (h.block i c a)⟩
structure KX(k:Nat)(W:World)(b:Nat)(fv:Value)(s:Cs)(p:Nat)(v:Value)(es:List (Lit×DataW Unit))(ks:List A1)(V:World):Prop where
 src:Ch V b {s with pos:=p}
 but:Cg b W V
 box:V.heap[W.heap.size]?=some (.cells #[A8 b,fv] 218)
 keys:ES V (W.heap.size+1) ks
 own:∃xs,V.ownsRow (W.heap.size+2) 225 2 v es.length xs/\Jn k V (λj=>W.heap.size+2<=j/\j<V.heap.size/\some j≠v.ownBlock) xs es
 size:W.heap.size+2<=V.heap.size
theorem az(h:W.ownsRow base t size v n xs)(k:Hv b m W W')(p:b<base)(o:m<base):W'.ownsRow base t size v n xs:=by
 obtain⟨i,a⟩:=h;refine⟨i,?_⟩;rcases a with a|⟨g,d,f,e,l,c,j⟩
 .exact AF a
 exact AG ⟨g,d,f,e,l,(k.block g (Cc c) E E).trans c,j⟩
theorem KX.step{ks':AJ A1}(h:KX k W b fv s p v es ks V)(hb:b<K (U W))(g:Ch V' b {s with pos:=q})(a:Hv b (K (U W)+1) V V')(f:ES V' (K (U W)+1) ks'):KX k W b fv s q v es ks' V':=by obtain⟨i,d,e⟩:=h.own;refine⟨g,h.but.trans' a,(a.block _ (Cc h.box) E E).trans h.box,f,⟨i,az d a E E,?_⟩,Cy h.size a.size⟩;exact e.same (λj c=>⟨c.1,CK c.2.1 a.size,c.2.2⟩) (λj c=>a.block j c.2.1 E E)
theorem KX.push(h:KX k W b fv s p v es ks V)(B:Ch W b s)(u:V.ownsRow (K (U W)+2) 225 2 v (O es) xs)(hx:Jn k V (λj=>K (U W)+2<=j/\j<K (U V)/\H j≠Ax v) xs es)(N:Cv k V (λj=>K (U V0)<=j/\j<K (U V)) x d)(ad:∀g,Ax v=H g->g<K (U V0))(aa:K (U W)+2<=K (U V0))(R:w5.ownsRow (K (U W)+2) 225 2 v' (O es+1) (xs++[Ae ⟨Aw l⟩,x]))(f:(Az V (M #[Ae ⟨Aw l⟩,x] 225)).grownBy w5 (Ax v))(o:Ax v'=Ax v\/Ax v'=H (K (U (Az V (M #[Ae ⟨Aw l⟩,x] 225))))):KX k W b fv s p v' (es++[(.string l,d)]) ks w5:=by
 have ac:=h.size;have ab:K (U V)+1<=K (U w5):=ke2;have key:∀g,Ax v=H g->K (U W)+2<=g:=λg f=>DK u f;have q:=λj a n=>(f.block j B7 n).trans (Cx _ _ _ a);have r:∀j,j<K (U W)+2->w5.heap[j]?=V.heap[j]?:=λj a=>q j E (λe=>B9);have Q:ES w5 (K (U W)+1) ks:=by have L:Cg (K (U W)+2) V (Az V (M #[Ae ⟨Aw l⟩,x] 225)):=Cg.of_below Cl;have F:=h.keys.but E L;exact F.kept f (λe=>B9)
 refine⟨B.same Z Z h.src (λj a=>r j E),⟨f.os.trans h.but.os,f.tape.trans h.but.tape,f.output.trans h.but.output,E,λj a n=>(r j E).trans (h.but.block j a n)⟩,(r _ E).trans h.box,Q,⟨_,by rw[Dc];exact R,λi y c m=>?_⟩,E⟩;have t:∀j,j<K (U V)->H j≠Ax v->H j≠Ax v':=λj a n=>by
  rcases o with o|o
  .rw[o];exact n
  rw[o];intro e;injection e with e;simp at e;omega
 have ae:=u.1;by_cases P:i<O es
 .rw[GM P]at m;obtain⟨S,x',z,e2,e3,A⟩:=hx i y c m;refine⟨S,x',z,B9,B9,?_⟩;exact A.same (λj a=>⟨a.1,AY a.2.1,t j a.2.1 a.2.2⟩) (λj a=>q j a.2.1 a.2.2)
 have e:i=O es:=B9;subst e;rw[IU E]at m;simp at m;obtain⟨rfl,rfl⟩:=m;have w:∀j,K (U V0)<=j->H j≠Ax v:=λj a e=>B9;refine⟨l,x,Z,?_,?_,N.same (λj a=>⟨E,E,t j a.2 (w j a.1)⟩) (λj a=>q j a.2 (w j a.1))⟩<;>grind
theorem KX.row(h:KX k W b fv s p v es ks V):Cv (k+1) V (λj=>K (U W)<=j/\j<K (U V)) (Ai 223 v) (.map es):=by
 obtain⟨o,a,i⟩:=h.own;unfold Cv;refine⟨v,o,Z,⟨a.1,?_⟩,i.same (λj n=>⟨E,n.2.1⟩) (λ_ _=>rfl)⟩;rcases a.2 with l|⟨g,d,f,e,q,c,m⟩
 .exact AF l
 exact AG ⟨g,d,f,e,⟨E,(Cc c)⟩,c,m⟩
theorem Tryz.infoEntry:(prog.info? 225).map (λi=>(i.zero,i.size,i.bytes))=H (H (Ag #[.string ByteArray.empty,.nilIface]),2,32):=B6
theorem VK(bs:A1)(lim:J):∀(k p a x q:I),CR bs lim k p a=.ok (x,q)->q=p+k
 |0,p,a,x,q,h=>keI
 |k+1,p,a,x,q,h=>by
  rw[CR]at h;split at h
  .cases h
  split at h
  .cases h
  have:=VK bs lim k _ _ x q h;omega
theorem aA(h:E8 hd bs lim ks p=.ok (l,q)):p<q:=by
 unfold E8 at h;split at h
 .cases h
 split at h
 .cases h
 split at h
 .split at h
  .cases h
  next x q' ha =>
  split at h
  .cases h
  next l' r hb =>
  split at h
  .cases h
  injection h with h;injection h with h1 h2;have:=VK _ _ _ _ _ _ _ ha;have:=SD _ _ _ _ _ _ hb;omega
 cases h
theorem oW(h:Ch W b s):KX k W b fv s s.pos (T Ao 0 0) [] [] (Az (Az W (M #[A8 b,fv] 218)) (.map #[] 0)):=by have a:Below _ W (Az (Az W (M #[A8 b,fv] 218)) (.map #[] 0)):=(Cl).alloc Ba _;refine⟨h.below a,Cg.of_below a,(Cx _ _ _ Ba).trans (Cj W),⟨.map [],?_,λl=>kfa⟩,⟨[],Fa _ _ _ _,λi key d c=>kfk⟩,Ba⟩;grind [World.ownsMap_made,World.size_alloc]
theorem oX(hn:n<18446744073709551616)(h:Ch W b s)(a6:O s.bs<=200000000)(hU:∀V,Cg b W V->U8 V)(a1:7<b)(cH:N7 f hd b W)(ak:VI k f b s W rd)(ai:∀p d q,rd p=.ok (d,q)->p<q):Ar As 307 #[Ag #[A8 b,.func (.func f) #[] #[]],C .u64 n] W (Qz W b s (λV ao x=>(∃a n c,ao=T a n c)/\Cv (k+1) V (λal=>K (U W)<=al/\al<K (U V)) (Ai 223 ao) (.map x)) (Gj (E8 hd s.bs s.lim) rd n s.pos [] [])):=by
 obtain⟨i0,hi,bb,bc,bd⟩:=DD Tryz.infoEntry;have a7:∀V:X,(Instr.makeMap 399 Ao).run As V=.ok (.map (H (K (U V)))) (Az V (.map #[] 0)):=λV=>B6;have ax:D (KX k W b _ s _ _ [] [] (Az (Az W (M #[.pointer _,.func (.func f) #[] #[]] _)) _)):=oW h;have ab:=Cc h.row;have ae:D (∀g off,s.bs≠[]->s.ia=H ⟨g,off,Ao⟩->g≠K (U W)+1):=λg off bj e=>by have hl:0<O s.bs:=B9;obtain⟨g',bm,N,_,e3⟩:=h.inp 0 hl;rw[e]at N;injection N with N;injection N with N;have:g'<K (U W):=FF e3;omega
 have v:=λV p ks hV B hk hl=>oV (W:=V) (s:={s with pos:=p}) (ks:=ks) hV hk E ae hl a6 (λa0 a2=>hU a0 (B.trans a2)) a1 (cH.but B);have av:=G h;have af:=G ak;have ar:=G ai;have bi:=h.le;obtain⟨ag,F⟩:=CA (Gj (E8 hd s.bs s.lim) rd n s.pos [] []);rw[AE F];clear h ak ai cH hU ae;go_enter func307,ntmps307;go_wp2;generalize Az (Az W (M #[A8 b,.func (.func f) #[] #[]] 218)) (.map #[] 0)=W0 at *;clear a7
 go_loopg[5,10] n (λg y be wr=>∃(m p:I) (a:A4) (ad c:I) (x:AJ (Lit×AM Unit)) (ks:AJ A1),y=T a ad c/\be=C .u64 m/\D (m+g=n)/\D (p<=O s.bs)/\D (O x<=p/\O ks<=p)/\D (KX k W b (.func (.func f) #[] #[]) s p (T a ad c) x ks wr)/\D (Gj (E8 hd s.bs s.lim) rd g p ks x=ag))
 case atStart=>grind [D]
 case round =>
  clear ax F;obtain⟨m,p,a,ad,c0,x,ks,rfl,rfl,hg,hp,ha,w,F⟩:=hrel;have kb:=Cb w.box 0;have am:=Cb w.box 1;obtain _|g:=gk
  .have hk:m=n:=AY (AE hg);subst hk;have P:D (ag=.ok _):=F.symm;clear F hg v;go_wp2;go_ret;rw[AE P];exact⟨w.but,⟨_,Z,⟨_,_,_,Z⟩,w.row⟩,w.src⟩
  have bh:m<n:=AY (AE hg);have N:AR (m<(n:J))=AP:=B7;have a5:O ks<1000000000:=by grind [D]
  have L:=v wr p ks w.src w.but w.keys a5;have o:=AE F;rw[Gj]at o;clear F v;rcases hq:E8 hd s.bs s.lim ks p with er|lq
  .rw[hq]at o L;simp only[]at o;obtain⟨R,pl⟩:=er;have P:=G o.symm;clear o hq
   go_wp2_with(first
    |(go_at_call 309;apply L.mono;clear L;rintro e A ⟨B,hF⟩;obtain⟨hF,pz,ac⟩:=(show CV R pl e/\∃p,Ch A b {s with pos:=p}from hF);obtain rfl:=hF))
   rw[AE P];exact⟨Z,w.but.trans' B,Z,pz,ac⟩
  obtain⟨key,q⟩:=lq;rw[hq]at o L;simp only[]at o;have bk:=aA hq;clear hq;rcases hq2:rd q with er|dr
  .rw[hq2]at o;simp only[]at o;obtain⟨R,pl⟩:=er;have P:=G o.symm;have j:=G hq2;clear o hq2
   go_wp2_with(first
    |(go_at_call 309;apply L.mono;rintro e A ⟨B,hF⟩;obtain⟨rfl,aa,l⟩:=(show e=Ak _/\Ch A b {s with pos:=q}/\ES A _ _ from hF);have i:=G (w.step ab aa B l);have kb:=Cb i.box 0;have am:=Cb i.box 1;have Q:=af.out A q i.src i.but;rw[AE j]at Q)
    |(go_at_call 301;apply Q.mono;rintro e z ⟨u,S⟩;obtain⟨S,pz,ac⟩:=(show CV R pl e/\∃p,Ch z b {s with pos:=p}from S);obtain rfl:=S))
   rw[AE P];exact⟨Z,i.but.trans u,Z,pz,ac⟩
  obtain⟨d,r⟩:=dr;rw[hq2]at o;simp only[]at o;have j:=G hq2;have bl:=ar.out q d r hq2;have HN:=G o;have bg:O x<=200000000:=by grind [D]
  have aq:D (O x+1<=r/\O ks+1<=r):=⟨AY ha.out.1,AY ha.out.2⟩
  go_wp2_with(first
   |(go_at_call 309;apply L.mono;rintro e A ⟨B,hF⟩;obtain⟨rfl,aa,l⟩:=(show e=Ak _/\Ch A b {s with pos:=q}/\ES A _ _ from hF);have i:=G (w.step ab aa B l);have kb:=Cb i.box 0;have am:=Cb i.box 1;have Q:=af.out A q i.src i.but;rw[AE j]at Q;have aw:=G i.size;have au:D _:=by{obtain⟨xs,h1,_⟩:=i.own;exact Ps h1})
   |(go_at_call 301;apply Q.mono;rintro e z ⟨u,S⟩;obtain⟨⟨an,y,rfl,a3⟩,ah⟩:=(show(∃an y,e=Ak _/\Cv k z _ _ d)/\Ch z b {s with pos:=r}from S);have t:=G (i.step ab ah (.of1 u) (i.keys.but E u));have HD:=G a3;have HQ:=G ah.le;obtain⟨xs,a8,ba⟩:=t.own;have HO:=G a8;have az:=G ba;have ap:=G t.size)
   |(at_builtin;refine Jl Z Z underlying223 hi bb bc bd Z B8 Z (HO.alloc _) 1 1 (news:=[.string _,Ai an y]) Z Z (EI) (λbn hu=>BD) B8 Bc E (B1 (AE ap)) ?_;intro v' w5 aj a4 a9;have ay:=G (t.push av HO az HD au aw aj a4 a9);obtain⟨g5,bf,rfl⟩:=ownsRow_succ aj))
  go_roundg g
  case measure=>omega
  case rel=>exact⟨m+1,r,_,_,_,x++[(.string key,d)],key::ks,rfl,Bb,B9,HQ,⟨by grind [D],aq.2⟩,ay,HN⟩
theorem aB:∀(n p:I) (a l:A1) (r:I),EJ bs lim n p a=.ok (l,r)->r=p+n
 |0,p,a,l,r,h=>by grind [EJ]
 |n+1,p,a,l,r,h=>by
  rw[EJ]at h;split at h
  .cases h
  split at h
  .cases h
  have:=aB n _ _ l r h;omega
theorem aC(a:∀p d q,rd p=.ok (d,q)->p<q):∀(n p:I) (acc ds:AJ (AM Unit)) (r:I),GD rd n p acc=.ok (ds,r)->p<=r
 |0,p,acc,ds,r,h=>by grind [GD]
 |n+1,p,acc,ds,r,h=>by
  rw[GD]at h;split at h
  .cases h
  next d q hq =>
  have b:=a _ _ _ hq;have c:=aC a n q _ ds r h;omega
theorem aD{kf:AJ A1->I->A5 A1}(b:∀a p l q,kf a p=.ok (l,q)->p<q)(c:∀p d q,rd p=.ok (d,q)->p<q):∀(n p:I) (a:AJ A1) (acc es:AJ (Lit×AM Unit)) (r:I),Gj kf rd n p a acc=.ok (es,r)->p<=r
 |0,p,a,acc,es,r,h=>by grind [Gj]
 |n+1,p,a,acc,es,r,h=>by
  rw[Gj]at h;split at h
  .cases h
  next l q hq =>
  split at h
  .cases h
  next d r' hr =>
  have e:=b _ _ _ _ hq;have f:=c _ _ _ hr;have g:=aD b c n r' _ _ es r h;omega
theorem oY{li:I->I->AS (J×J) (AJ (AM Unit)×I)}{ma:I->I->AS (J×J) (AJ (Lit×AM Unit)×I)}{w x:I}{r:I}(c:∀x q a r,li x q=.ok (a,r)->q<=r)(e:∀x q b r,ma x q=.ok (b,r)->q<=r)(h:G0 bs lim li ma so w x q=.ok (d,r)):q<=r:=by
 unfold G0 at h;split at h
 .grind
 .grind
 .grind
 .grind
 .grind
 .grind [aB]
 .split at h
  .cases h
  next l r' hl =>
  injection h with h;injection h with h1 h2;have:=SD _ _ _ _ _ _ hl;omega
 .grind
 .grind
 grind
theorem SE(e:I->I×I×I)(bs:A1)(lim depth:J):∀(g b p:I) (d:A2) (q:I),DM e bs lim depth g b p=.ok (d,q)->p<q
 |0,_,_,_,_,h=>by rw[DM]at h;cases h
 |g+1,b,p,d,q,h=>by
  have f:=SE e bs lim depth g (b+1);rcases hc:bs[p]? with _|c
  .grind [DM]
  by_cases m:(p:J)=lim
  .grind [DM]
  rw[SB hc m rfl]at h;split at h
  .cases h
  split at h
  .cases h
  split at h
  .cases h
  next x q' ha =>
  have n:=VK _ _ _ _ _ _ _ ha;have o:=oY (λx q i r a=>aC f x q [] i r a) (λx q j r a=>aD (λs p l q k=>aA k) f x q [] [] j r a) h;omega
theorem VL(d:I->I×I×I)(f:I):∀(g:I) (W:X) (b:I) (s:Cs),Ch W b s->O s.bs<=200000000->(∀V,Cg b W V->U8 V)->7<b->N7 f d b W->s.depth<=100000->(s.within:J)<=s.depth->s.depth<s.within+g ->
  Ar As 301 #[Ag #[A8 b,.func (.func f) #[] #[]]] W (QF g W b s (DM d s.bs s.lim s.depth g s.within s.pos))
 |0,W,b,s,_,_,_,_,_,_,a,h2=>E
 |g+1,W,b,s,h,hlen,hU,h7,cH,hdp,hwd,hgd=>by
  have r:¬s.within=s.depth->∀V,Cg b W V->VI g f b {s with within:=s.within+1} V (DM d s.bs s.lim s.depth g (s.within+1)):=λl V j t p k i =>
   VL d f g t b _ k hlen (λm o=>hU m ((j.trans i).trans o)) h7 (cH.but (j.trans i)) hdp B9 B9
  rcases Ji h with a|a|⟨c,a⟩
  .have e:DM d s.bs s.lim s.depth (g+1) s.within s.pos=.error (9,s.pos):=by unfold DM;rw[Hm (by have:s.pos=O s.bs:=a;omega)]
   rw[e];exact ap 9 h (λV j=>Ka j a)
  .have e:DM d s.bs s.lim s.depth (g+1) s.within s.pos=.error (8,s.pos):=by unfold DM;rw[D3 a.1];simp only[];rw[Cn a.2]
   rw[e];exact ap 8 h (λV j=>Kb j a)
  exact oT d h a Z (cH.so _ c.toNat_lt) (cH.fit _ c.toNat_lt).1 (cH.fit _ c.toNat_lt).2.1 (cH.fit _ c.toNat_lt).2.2 hlen E cH.fn hU h7 (cH.call c)
   (λl V p n k i q=>oH q k hlen (r l V i) (SE d _ _ _ g _))
   (λl V p n k i q=>oX q k hlen (λm o=>hU m (i.trans o)) h7 (cH.but i) (r l V i) (SE d _ _ _ g _))
def Fy{α:Type}(bs:A1)(lim:AI)(itF:α->AH->A5 α)(last:AH):AH->AH->α->A5 α
 |0,p,_=>.error (9,p)
 |g+1,p,acc=>match DL bs lim (At bs+1-p) p with
  |.error e=>.error e
  |.ok (_,p1)=>match itF acc p1 with
   |.error e=>.error e
   |.ok (acc',p2)=>match DL bs lim (At bs+1-p2) p2 with
    |.error e=>.error e
    |.ok (_,p3)=>match bs[p3]? with
     |none=>.error (9,p3)
     |some c=>if(p3:AI)=lim then .error (8,p3)else if c.toNat=last then .ok (acc',p3+1)else if c.toNat=44 then Fy bs lim itF last g (p3+1) acc' else .error (9,p3)
def G3{α:Type}(bs:A1)(lim:AI)(itF:α->AH->A5 α)(last p:AH)(acc:α):A5 α :=
 match DL bs lim (At bs+1-p) p with
 |.error e=>.error e
 |.ok (_,p1)=>match bs[p1]? with
  |none=>Fy bs lim itF last (At bs+1-p1) p1 acc
  |some c=>if(p1:AI)=lim then .error (8,p1)else if c.toNat=last then .ok (acc,p1+1)else Fy bs lim itF last (At bs+1-p1) p1 acc
def FL(rd:AH->AS (AI×AI) (AM Unit×AH))(ds:AJ (AM Unit))(p:AH):AS (AI×AI) (AJ (AM Unit)×AH) :=
 match rd p with
 |.error e=>.error e
 |.ok (d,q)=>.ok (ds++[d],q)
def J2(bs:A1)(lim:AI)(ks:AJ A1)(p:AH):A5 A1 :=
 match Dn bs lim [34] p with
 |.error e=>.error e
 |.ok (_,q)=>match Dr bs lim (At bs+1-q) q [] 0 with
  |.error e=>.error e
  |.ok (l,r)=>if l∈ks then .error (12,(r:AI)-1)else .ok (l,r)
def Fk(bs:A1)(lim:AI)(rd:AH->AS (AI×AI) (AM Unit×AH))(a:AJ A1×AJ (Lit×AM Unit))(p:AH):AS (AI×AI) ((AJ A1×AJ (Lit×AM Unit))×AH) :=
 match J2 bs lim a.1 p with
 |.error e=>.error e
 |.ok (l,p1)=>match DL bs lim (At bs+1-p1) p1 with
  |.error e=>.error e
  |.ok (_,p2)=>match Dn bs lim [58] p2 with
   |.error e=>.error e
   |.ok (_,p3)=>match DL bs lim (At bs+1-p3) p3 with
    |.error e=>.error e
    |.ok (_,p4)=>match rd p4 with
     |.error e=>.error e
     |.ok (d,p5)=>.ok ((l::a.1,a.2++[(.string l,d)]),p5)
def JU(bs:A1)(lim depth:AI)(wi:AH)(rd:AH->AS (AI×AI) (AM Unit×AH))(nm:AU->AH->A5 AI)(c:AU)(p:AH):AS (AI×AI) (AM Unit×AH) :=
 if c.toNat=110 then match Dn bs lim [117,108,108] p with
  |.error e=>.error e
  |.ok (_,q)=>.ok (.nil,q)
 else if c.toNat=116 then match Dn bs lim [114,117,101] p with
  |.error e=>.error e
  |.ok (_,q)=>.ok (.lit (.bool AP),q)
 else if c.toNat=102 then match Dn bs lim [97,108,115,101] p with
  |.error e=>.error e
  |.ok (_,q)=>.ok (.lit (.bool AQ),q)
 else if c.toNat=34 then match Dr bs lim (At bs+1-p) p [] 0 with
  |.error e=>.error e
  |.ok (l,q)=>.ok (.lit (.string l),q)
 else if c.toNat=91 then(if(wi:AI)=depth then .error (11,(p:AI)-1)else match G3 bs lim (FL rd) 93 p []with
  |.error e=>.error e
  |.ok (ds,q)=>.ok (.agg ds,q))
 else if c.toNat=123 then(if(wi:AI)=depth then .error (11,(p:AI)-1)else match G3 bs lim (Fk bs lim rd) 125 p ([],[])with
  |.error e=>.error e
  |.ok (es,q)=>.ok (.map es.2,q))
 else if c.toNat=45\/Eh c=AP then match nm c p with
  |.error e=>.error e
  |.ok (z,q)=>.ok (.lit (.int Al z),q)
 else .error (9,(p:AI)-1)
def Fl(bs:A1)(lim depth:AI)(nm:AU->AH->A5 AI):AH->AH->AH->AS (AI×AI) (AM Unit×AH)
 |0,_,_=>.error (0,0)
 |g+1,wi,p=>match bs[p]? with
  |none=>.error (9,p)
  |some c=>if(p:AI)=lim then .error (8,p)else JU bs lim depth wi (Fl bs lim depth nm g (wi+1)) nm c (p+1)
def Od(k:AH)(W:Ap)(b:AH)(s:Cs)(r:AS (AI×AI) (AM Unit×AH))(e:Ending)(W':Ap):Prop :=
 Cg b W W'/\match r with
 |.ok (d,p)=>(∃t y,e=Ak (Ai t y)/\Cv k W' (λj=>_root_.Array.size (Av W)<=j/\j<_root_.Array.size (Av W')) (Ai t y) d)/\Ch W' b {s with pos:=p}
 |.error (en,pl)=>CV en pl e
def Pt(k b:AH)(s:Cs)(W0:Ap)(rd:AH->AS (AI×AI) (AM Unit×AH)):Prop :=
 ∀(V:Ap) (p:AH),Ch V b {s with pos:=p}->Cg b W0 V->Ar As 272 #[Ag #[A8 b]] V (Od k V b {s with pos:=p} (rd p))
def SF{α:Type}(St:AH->α->Ap->Prop)(Fr:Ap->Prop)(r:A5 α)(e:Ending)(V:Ap):Prop :=
 match r with
 |.ok (a,q)=>e=Ak (Af #[])/\St q a V
 |.error (en,pl)=>CV en pl e/\Fr V
structure VM{α:Type}(b:Nat)(s:Cs)(St:Nat->Nat->Nat->α->World->Prop)(Fr:World->Prop):Prop where
 src:∀N wi p a V,St N wi p a V->Ch V b {s with pos:=p,within:=wi}
 step:∀N wi p a V wi' q V',St N wi p a V->Ch V' b {s with pos:=q,within:=wi' }->Cg b V V'->p<=q->St N wi' q a V'
 box:∀N wi p a V,St N wi p a V->V.heap[N]?=some (.cells #[A8 b] 215)
 fr:∀N wi p a V,St N wi p a V->Fr V
 frb:∀V V',Fr V->Cg b V V'->Fr V'
theorem KY:∀(g p:I) (u:Unit) (q:I),DL bs lim g p=.ok (u,q)->p<=q
 |0,p,u,q,h=>by grind [DL]
 |g+1,p,u,q,h=>by
  rw[DL]at h;split at h
  .grind
  split at h
  .cases h
  split at h
  .have:=KY g _ u q h;omega
  grind
theorem aE{α:Type}(last:I)(ae:FuncId)(cp:A3)(ay:∀(ao:A3) (V:X),(callFunc ae ao).run As V=.ok (.enter ae ao) V){itF:α->I->A5 α}(acc:α){St:I->I->I->α->X->Prop}{Fr:X->Prop}(hI:VM b s St Fr)(h:Ch W b s)(hd:¬(s.within:J)=s.depth)(bh:s.within<=100000)(a8:St (K (U W)) s.within s.pos acc (Az W (M #[A8 b] 215)))(az:∀an p a V,St an (s.within+1) p a V->Ar As ae cp V (SF (St an (s.within+1)) Fr (itF a p)))(a7:∀a p a' ai,itF a p=.ok (a',ai)->p<ai):Ar As 285 #[Ag #[A8 b],C Am last,.func (.func ae) #[] cp] W (SF (λai a V=>St (K (U W)) s.within ai a V) Fr (G3 s.bs s.lim itF last s.pos acc)):=by
 have a0:=G ay;clear ay;have HS:=G a8;have f:=G hI;have a1:=G a7;have cE:=ak (W:=(Az W (M #[A8 b] 215))) (h.below Cl) hd E;have o:∀(V:X) (p:I),Ch V b {s with pos:=p,within:=s.within+1}->Ar _ _ _ V λe u=>e=Ak _/\Ch u b {s with pos:=p}/\Cg b V u:=λV p j=>oF j Z B9;obtain⟨ad,S⟩:=CA (G3 s.bs s.lim itF last s.pos acc);rw[AE S];have d:=AE S;unfold G3 at d;have m:=Cb (f.box _ _ _ _ _ HS) 0;go_enter func285,ntmps285;go_wp2;go_step3
 go_wp2_with fail
 apply cE.mono;rintro e w2 ⟨rfl,a6,a2⟩;have H2:=G (f.step _ _ _ _ _ _ _ _ HS a6 a2 E);have m:=Cb (f.box _ _ _ _ _ H2) 0
 go_wp2_with fail
 apply (Qt (f.src _ _ _ _ _ H2)).mono;rintro e w3 ⟨ap,af⟩;rcases h1:DL s.bs s.lim (O s.bs+1-s.pos) s.pos with y|up
 .obtain⟨x,A⟩:=y;simp only[h1]at d af;subst d;obtain rfl:=(show CV x A e from af)
  go_wp2;exact⟨Z,Z,f.frb _ _ (f.fr _ _ _ _ _ H2) ap⟩
 obtain⟨bi,i⟩:=up;simp only[h1]at d af;have bd:=KY _ _ _ _ h1;obtain⟨rfl,av⟩:=(show e=Ak _/\Ch w3 b _ from af)
 have v:=G (f.step _ _ _ _ _ _ _ _ H2 av ap E);have bb:D (i<=O s.bs):=av.le;have m:=Cb (f.box _ _ _ _ _ v) 0;have a9:(Qr {s with pos:=i,within:=s.within+1}/\ad=.error (8,i))\/(∃c,Jh {s with pos:=i,within:=s.within+1} c/\c.toNat=last/\ad=.ok (acc,i+1))\/((Ar As 280 #[A8 b,C Am last] w3 λe u=>e=Ak (Ah AQ)/\Ch u b {s with pos:=i,within:=s.within+1}/\Cg b w3 u)/\Fy s.bs s.lim itF last (O s.bs+1-i) i acc=ad):=by
  have j:=(f.src _ _ _ _ _ v)
  rcases h2:s.bs[i]? with _|c
  .rw[h2]at d;refine AG (AG ⟨Vn last j ?_,d⟩);have t:i<=O s.bs:=j.le;have N:=List.getElem?_eq_none_iff.1 h2;show i=O s.bs;omega
  rw[h2]at d;simp only[]at d;have N:=Dh h2;by_cases k:(i:J)=s.lim
  .rw[Cn k]at d;exact AF ⟨⟨N,k⟩,d.symm⟩
  rw[Ci k]at d;by_cases l:c.toNat=last
  .rw[Cn l]at d;exact AG (AF ⟨c,⟨h2,k⟩,l,d.symm⟩)
  rw[Ci l]at d;refine AG (AG ⟨?_,d⟩);have:=Sj last j ⟨h2,k⟩;rwa[show((c.toNat:J)==last)=AQ by simp;omega]at this
 go_wp2_with fail
 rcases a9 with⟨a5,rfl⟩|⟨c,au,hc,rfl⟩|⟨cF,d⟩
 .apply (ZF (f.src _ _ _ _ _ v) a5).mono;rintro e w4 ⟨rfl,R⟩;go_wp2;exact⟨Z,Z,f.frb _ _ (f.fr _ _ _ _ _ v) (Cg.of_below R)⟩
 .have cF:=Sj last (f.src _ _ _ _ _ v) au;rw[show((c.toNat:J)==last)=AP by rw[hc];simp]at cF;apply cF.mono;rintro e w4 ⟨rfl,al,R⟩;have n:=G (f.step _ _ _ _ _ _ _ _ v al R E);have m:=Cb (f.box _ _ _ _ _ n) 0
  go_wp2_with fail
  apply (IL (f.src _ _ _ _ _ n) au).mono;rintro e w5 ⟨rfl,ag,aa⟩;have B:=G (f.step _ _ _ _ _ _ _ _ n (show Ch w5 b {s with pos:=i+1,within:=s.within+1}from ag) aa E);have m:=Cb (f.box _ _ _ _ _ B) 0
  go_wp2_with fail
  apply (o w5 _ (f.src _ _ _ _ _ B)).mono;rintro e w6 ⟨rfl,ah,a3⟩;have w:=G (f.step _ _ _ _ _ _ _ _ B ah a3 E);go_wp2;apply M7;go_end0;exact⟨Z,w⟩
 have S:=G d;apply cF.mono;rintro e w4 ⟨rfl,al,R⟩;have n:=G (f.step _ _ _ _ _ _ _ _ v al R E);go_wp2;go_step3;go_wp2
 go_loopg[21] (O s.bs+1-i) (λg _ wr=>∃(p:I) (a:α),D (O s.bs+1<=p+g)/\D (p<=O s.bs)/\D (St (K (U W)) (s.within+1) p a wr)/\D (Fy s.bs s.lim itF last g p a=ad))
 case atStart=>grind [D]
 case round =>
  obtain⟨p,a,hg,hp,n,S⟩:=hrel;obtain⟨g,rfl⟩:∃g,gk=g+1:=⟨gk-1,by grind [D]⟩
  have m:=Cb (f.box _ _ _ _ _ n) 0;have d:=AE S;rw[Fy]at d
  go_wp2_with fail
  apply (Qt (f.src _ _ _ _ _ n)).mono;rintro e w5 ⟨aa,ab⟩;rcases h1:DL s.bs s.lim (O s.bs+1-p) p with y|up
  .obtain⟨x,A⟩:=y;simp only[h1]at d ab;subst d;obtain rfl:=(show CV x A e from ab)
   go_wp2;exact⟨Z,Z,f.frb _ _ (f.fr _ _ _ _ _ n) aa⟩
  obtain⟨u1,q1⟩:=up;simp only[h1]at d ab;have be:=KY _ _ _ _ h1;clear h1;obtain⟨rfl,ag⟩:=(show e=Ak _/\Ch w5 b _ from ab)
  have B:=G (f.step _ _ _ _ _ _ _ _ n ag aa E);clear n ag aa ab
  go_wp2_with fail
  go_simp;rw[AE a0];go_simp;apply (az _ _ _ _ B).mono;clear az;rintro e w6 z;rcases h2:itF a q1 with y|aq
  .obtain⟨x,A⟩:=y;rw[h2]at d z;simp only[]at d;subst d;clear h2 o;obtain⟨z,a4⟩:=(show CV x A e/\Fr w6 from z)
   obtain rfl:=z;go_wp2;exact⟨Z,Z,a4⟩
  obtain⟨a',q2⟩:=aq;rw[h2]at d z;simp only[]at d;have bf:=a1.out _ _ _ _ h2;clear h2;obtain⟨rfl,ah⟩:=(show e=Ak _/\St _ _ q2 a' w6 from z)
  have w:=G ah;clear B z ah;have m:=Cb (f.box _ _ _ _ _ w) 0
  go_wp2_with fail
  apply (Qt (f.src _ _ _ _ _ w)).mono;clear m;rintro e w7 ⟨aj,ac⟩;rcases k:DL s.bs s.lim (O s.bs+1-q2) q2 with y|up
  .obtain⟨x,A⟩:=y;simp only[k]at d ac;subst d;clear k o;obtain rfl:=(show CV x A e from ac)
   go_wp2;exact⟨Z,Z,f.frb _ _ (f.fr _ _ _ _ _ w) aj⟩
  obtain⟨u3,r⟩:=up;simp only[k]at d ac;have bg:=KY _ _ _ _ k;clear k;obtain⟨rfl,aw⟩:=(show e=Ak _/\Ch w7 b _ from ac)
  have F:=G (f.step _ _ _ _ _ _ _ _ w aw aj E);clear w aw aj ac;have m:=Cb (f.box _ _ _ _ _ F) 0
  go_wp2_with fail
  have j:=(f.src _ _ _ _ _ F)
  rcases l:s.bs[r]? with _|c
  .simp only[l]at d;subst d;apply (Ka j (by show r=O s.bs;have t:r<=O s.bs:=j.le;grind)).mono;clear l o j;rintro e w8 ⟨rfl,Q⟩;go_wp2;exact⟨Z,Z,f.frb _ _ (f.fr _ _ _ _ _ F) (Cg.of_below Q)⟩
  rw[l]at d;simp only[]at d;have N:=Dh l;by_cases t:(r:J)=s.lim
  .rw[Cn t]at d;subst d;apply (Kb j ⟨N,t⟩).mono;clear l t N o j;rintro e w8 ⟨rfl,Q⟩;go_wp2;exact⟨Z,Z,f.frb _ _ (f.fr _ _ _ _ _ F) (Cg.of_below Q)⟩
  rw[Ci t]at d;apply (IL j ⟨l,t⟩).mono;clear l t m j;rintro e w8 ⟨rfl,am,Q⟩;have L:=G (f.step _ _ _ _ _ _ _ _ F (show Ch w8 b {s with pos:=r+1,within:=s.within+1}from am) Q E);have bc:D (r+1<=O s.bs):=am.le;clear F am Q;have m:=Cb (f.box _ _ _ _ _ L) 0;by_cases P:c.toNat=last
  .rw[Cn P]at d;subst d;have e1:((c.toNat:J)==last)=AP:=by rw[P];simp
   clear P
   go_wp2_with fail
   apply (o w8 _ (f.src _ _ _ _ _ L)).mono;clear o m;rintro e w9 ⟨rfl,ax,ar⟩;have H9:=G (f.step _ _ _ _ _ _ _ _ L ax ar E);clear L ax ar;go_wp2
   first|(refine M7 ?_;go_end0)|go_end0
   exact⟨Z,H9⟩
  rw[Ci P]at d;have e1:=(show((c.toNat:J)==last)=AQ by simp;omega)
  by_cases q:c.toNat=44
  .rw[Cn q]at d;have HN:=G d;have e2:((c.toNat:J)==44)=AP:=by rw[q];rfl
   have ba:D (O s.bs+1<=(r+1)+g):=by grind [D]
   clear P q d o;go_wp2;go_roundg g
   case measure=>omega
   grind
  rw[Ci q]at d;subst d;have e2:=D7 (c:=c) 44 E;have cR:=FJ 9 (f.src _ _ _ _ _ L);rw[show((({s with pos:=r+1,within:=s.within+1}:Cs).pos:J)-1)=r by grind]at cR;clear P q o
  go_wp2_with fail
  apply cR.mono;rintro e w9 ⟨rfl,rfl⟩;go_wp2;exact⟨Z,Z,f.fr _ _ _ _ _ L⟩
theorem aF{β:Type}{md:Region.Mode}{ops:Array Oper}{fuel:I}{listed:Array AK}{a:Act}(L:Array AK)(b:I)(c:β->AJ (I×Aq))(T:β->Prop)(d:β->X)(e:(∀x,T x->wpAny P md ops Q b L ((c x).foldl (λa p=>a.put (H p.1) p.2) a) (d x))->wpAny P md ops Q fuel listed a w)(f:∀x,T x->wpAny P md ops Q b L ((c x).foldl (λa p=>a.put (H p.1) p.2) a) (d x)):wpAny P md ops Q fuel listed a w:=e f
theorem QH{a:Act}{K:Act->X->Prop}{s x:Operand}(V:o.op=.call {callee:=.builtin .append,args:=#[s,x],argTypes:=#[t,t]}){i:TypeInfo}{z:Aq}{bytes:I}(A:P.underlying t=H (.slice e))(hi:P.info? e=H i)(B:i.zero=H z)(y:i.size=size)(k:i.bytes=bytes)(ab:z.cells.size=size)(aa:0<size)(W:a.eval s=v)(q:w.ownsRow base e size v n xs){ad:Addr}(m c:I){news:AJ Aq}(hx:a.eval x=T (H ad) m c)(hl:O news=m*size)(p:∀j u,news[j]?=H u->AC w (ad.add j)=H u)(f:∀u∈news,u.oneCell'=AP)(S:0<m)(g:n+m<=maxLen)(l:(n+m)*bytes<=140737488355328)(R:base<=_root_.Array.size (U w))(h:∀b d,d.ownsRow base e size b (n+m) (xs++news)->w.grownBy d (Ax v)->(Ax b=Ax v\/Ax b=H (_root_.Array.size (U w)))->K (a.put o.dst b) d):o.wp P a w K Q:=by obtain⟨b,d,r,F,L,_⟩:=Qk w base t o.type e i z size bytes A hi B y k ab aa v n xs q ad m c news hl p f g l R;have N:=VB A hi B y k q hl p f S g l r;unfold Oper.wp execOp;simp only[V,resolve,invoke,builtin,Ig,Ga,FT,NW,GO,Lh,W,hx,r];exact h b d F L N
structure KZ(k:Nat)(W:World)(b:Nat)(s:Cs)(N wi p:Nat)(ds:List (DataW Unit))(V:World):Prop where
 src:Ch V b {s with pos:=p,within:=wi}
 but:Cg b W V
 rbox:V.heap[W.heap.size]?=some (.cells #[.pointer (some ⟨b,0,none⟩)] 215)
 box:V.heap[N]?=some (.cells #[.pointer (some ⟨b,0,none⟩)] 215)
 hN:W.heap.size+2<=N
 own:∃a l c xs,V.heap[W.heap.size+1]?=some (.cells #[.slice a l c] 221)/\V.ownsRow (W.heap.size+2) 89 1 (.slice a l c) ds.length xs/\some N≠(Value.slice a l c).ownBlock/\∀(i:Nat) (x:Value) (d:A2),xs[i]?=some x->ds[i]?=some d->Cv k V (λj=>W.heap.size+2<=j/\j<V.heap.size/\some j≠(Value.slice a l c).ownBlock) x d
 size:W.heap.size+2<=V.heap.size
 len:ds.length<=p
theorem KZ.step(h:KZ k W b s N wi p ds V)(hb:b<K (U W))(u:Ch V' b {s with pos:=q,within:=wi' })(e:Cg b V V')(t:O ds<=q):KZ k W b s N wi' q ds V':=by obtain⟨a,l,c,w,g,m,n,o⟩:=h.own;have z:=h.size;have y:=h.hN;exact⟨u,h.but.trans e,(e.block _ (Cc h.rbox) E).trans h.rbox,(e.block _ (Cc h.box) E).trans h.box,h.hN,⟨a,l,c,w,(e.block _ (Cc g) E).trans g,SC m e E,n,λi x d v r=>(o i x d v r).same (λj f=>⟨f.1,CK f.2.1 e.size,f.2.2⟩) (λj f=>e.block j f.2.1 E)⟩,Cy h.size e.size,t⟩
theorem KZ.push{l c:I}(h:KZ k W b s N wi p ds V)(h0:Ch W b s)(hb:b<K (U W))(m:Cg b V V3)(hS:Ch V3 b {s with pos:=q,within:=wi})(hd:Cv k V3 (λj=>K (U V)<=j/\j<K (U V3)) x d)(Q:V.heap[K (U W)+1]?=H (M #[T a l c] 221))(F:V.ownsRow (K (U W)+2) 89 1 (T a l c) (O ds) xs)(R:H N≠Ax (AX a l c))(ai:∀(i:I) (x:Aq) (d:A2),xs[i]?=H x->ds[i]?=H d->Cv k V (λj=>K (U W)+2<=j/\j<K (U V)/\H j≠Ax (AX a l c)) x d)(L:w5.ownsRow (K (U W)+2) 89 1 v' (O ds+1) (xs++[x]))(n:(Az V3 (M #[x] 89)).grownBy w5 (Ax (AX a l c)))(t:Ax v'=Ax (AX a l c)\/Ax v'=H (K (U (Az V3 (M #[x] 89)))))(af:O ds+1<=q):KZ k W b s N wi q (ds++[d]) (AB w5 ⟨K (U W)+1,0,Ao⟩ v'):=by
 have an:=h.size;have hN:=h.hN;have ac:=Cc h.box;have al:=m.size;have am:K (U V3)+1<=K (U w5):=BQ;have key:∀g,Ax (AX a l c)=H g->K (U W)+2<=g:=λg n=>DK F n;have aj:=Ps F;have v:∀j,j<K (U V3)->H j≠Ax (AX a l c)->j≠K (U W)+1->(AB w5 ⟨_,0,Ao⟩ v').heap[j]?=V3.heap[j]?:=λj f r hl=>(CY w5 _ _ _ ken).trans ((n.block j B7 r).trans (Cx _ _ _ f));have A:∀j,j<K (U W)+1->(AB w5 _ v').heap[j]?=V3.heap[j]?:=λj f=>v j E (λe=>AY (key j e.symm)) E;have ab:=(n.block _ B7 (λe=>AY (key _ e.symm))).trans ((Cx _ _ _ E).trans ((m.block _ (Cc Q) E).trans Q));have w:K (U (AB w5 ⟨K (U W)+1,0,Ao⟩ v'))=K (U w5):=Bd;obtain⟨P,z,rfl⟩:=ownsRow_succ L;have ag:(AB w5 ⟨K (U W)+1,0,Ao⟩ (T (H ⟨P,0,Ao⟩) (O ds+1) z)).ownsRow (K (U W)+2) 89 1 (T (H ⟨P,0,Ao⟩) (O ds+1) z) (O ds+1) (xs++[x]):=by
  refine⟨L.1,?_⟩;rcases L.2 with h2|⟨g,y,aa,e,ad,ae,h5⟩
  .exact AF h2
  exact AG ⟨g,y,aa,e,ad,(CY w5 _ _ _ B7).trans ae,h5⟩
 have B:∀j,j<K (U V3)->H j≠Ax (AX a l c)->H j≠Ax (AX _ _ z):=λj f r=>by
  rcases t with t|t
  .rw[t];exact r
  rw[t];intro e;injection e with e;simp at e;omega
 refine⟨h0.same Z Z hS (λj f=>A j E),⟨n.os.trans (m.os.trans h.but.os),n.tape.trans (m.tape.trans h.but.tape),n.output.trans (m.output.trans h.but.output),by rw[w];have:=h.but.size;omega,λj f r=>(A j E).trans ((m.block j E r).trans (h.but.block j f r))⟩,(A _ E).trans ((m.block _ E E).trans h.rbox),(v N E R E).trans ((m.block N ac E).trans h.box),h.hN,⟨_,_,_,_,?_,by rw[Dc];exact ag,?_,λi ak dd u o=>?_⟩,by rw[w];omega,by rw[Dc];exact af⟩
 .rw[DQ _ _ _ _ _ _ ab];rfl
 .exact B N E R
 have ah:O xs=O ds:=AY F.1;by_cases hi:i<O ds
 .rw[GM E]at u o;exact(ai i ak dd u o).same (λj f=>⟨f.1,by rw[w];have:=f.2.1;omega,B j E f.2.2⟩) (λj f=>(v j E f.2.2 E).trans (m.block j f.2.1 E))
 have e:i=O ds:=by have:=Dh o;rw[Dc]at this;simp at this;omega
 subst e;rw[IU E]at o;rw[IU E,ah]at u;simp at u o;subst u;subst o;have S:∀j,K (U V)<=j->H j≠Ax (AX a l c):=λj f e=>AY (aj j e.symm);exact hd.same (λj f=>⟨E,by rw[w];omega,B j f.2 (S j f.1)⟩) (λj f=>v j f.2 (S j f.1) E)
theorem oZ(h0:Ch W b s)(ai:Pt k b {s with within:=wi} W rd)(ag:∀p d q,rd p=.ok (d,q)->p<q)(ar:O s.bs<=200000000)(h:KZ k W b s N wi p ds V):Ar As 286 #[A8 (K (U W)+1),A8 (K (U W))] V (SF (KZ k W b s N wi) (λV=>Cg b W V) (FL rd ds p)):=by
 obtain⟨i0,hi,am,an,ao⟩:=DD Tryz.infoThing;have af:=Cc h0.row;obtain⟨w,B,z,xs,n,u,ah,al⟩:=h.own;have S:K (U W)+1<K (U (World.drew V)):=Cc n;have aq:O ds<=200000000:=by have h1:=h.len;have h2:p<=O s.bs:=h.src.le;omega
 have A:=h.src.below (Cq _ _).drew;have l:=h.but.trans (Cg.of_below (Cq _ _).drew);have k0:(World.drew V).cell? _=H (T w B z):=Cb n 0;have k1:(World.drew V).cell? _=H (.pointer _):=Cb h.rbox 0;have aj:=h.size;have m:∀v,Ch v b {s with pos:=p,within:=wi}->Cg b W v->Ar _ _ _ v (Od k v b {s with pos:=p,within:=wi} _):=λv h1 h2=>ai v p h1 h2;rcases hq:rd p with er|dq
 .obtain⟨L,R⟩:=er;have j:FL rd ds p=.error (L,R):=by unfold FL;rw[hq]
  rw[j];rw[hq]at m;go_enter func286,ntmps286
  go_wp2_with fail
  apply RZ B6;change wpAny _ _ _ _ _ _ _ (World.drew V);refine KL 0 1 Z Z B6 (λf a=>?_) (λf a=>?_)
  .go_simp;refine a _ _ <| EG 1 Z B6 (λf a=>?_);go_simp;refine a _ _ <| EG 2 Z B6 (λf a=>?_);go_simp;apply (m _ A l).mono;rintro e c ⟨g,i⟩;obtain rfl:=(show CV L R e from i)
   exact⟨Z,Z,l.trans g⟩
  go_simp;refine a _ _ <| KL 0 2 Z Z B6 (λf a=>?_) (λf a=>?_)
  .go_simp;refine a _ _ <| EG 2 Z B6 (λf a=>?_);go_simp;apply (m _ A l).mono;rintro e c ⟨g,i⟩;obtain rfl:=(show CV L R e from i)
   exact⟨Z,Z,l.trans g⟩
  go_simp;apply (m _ A l).mono;rintro e c ⟨g,i⟩;obtain rfl:=(show CV L R e from i)
  exact⟨Z,Z,l.trans g⟩
 obtain⟨d,q⟩:=dq;have j:FL rd ds p=.ok (ds++[d],q):=by unfold FL;rw[hq]
 rw[j];have au:=ag p d q hq;rw[hq]at m;go_enter func286,ntmps286
 go_wp2_with fail
 apply RZ B6;change wpAny _ _ _ _ _ _ _ (World.drew V);refine aF (β:=AN×Aq×X) #[AP,AP,AP,AP,AQ,AQ] 2 (λx=>[(2,T w B z),(3,Ag #[A8 b]),(4,Ai x.1 x.2.1),(5,T (Aa (K (U x.2.2))) 1 1)]) (λx=>Cg b (World.drew V) x.2.2/\Ch x.2.2 b {s with pos:=q,within:=wi}/\Cv k x.2.2 (λad=>K (U (World.drew V))<=ad/\ad<K (U x.2.2)) (Ai x.1 x.2.1) d) (λx=>x.2.2.alloc (M #[Ai x.1 x.2.1] 89)) (λQ=>?reg) ?tail
 case reg =>
  refine KL 0 1 Z Z B6 (λf a=>?_) (λf a=>?_)
  .go_simp;refine a _ _ <| EG 1 Z B6 (λf a=>?_);go_simp;refine a _ _ <| EG 2 Z B6 (λf a=>?_);go_simp;apply (m _ A l).mono;rintro e c ⟨g,i⟩;obtain⟨⟨t,y,rfl,r⟩,o⟩:=(show(∃t y,e=Ak _/\Cv k c _ _ d)/\Ch c b {s with pos:=q,within:=wi}from i)
   simp only[];have F:AC c _=H (T w B z):=Cb ((g.block _ S E).trans n) 0;have hrel:Cg b _ c/\Ch c b _/\Cv k c _ _ d:=⟨g,o,r⟩
   refine a _ _ <| EG 3 Z B6 (λf a=>?_);go_simp;exact a _ _ <| Q ⟨t,y,c⟩ hrel
  go_simp;refine a _ _ <| KL 0 2 Z Z B6 (λf a=>?_) (λf a=>?_)
  .go_simp;refine a _ _ <| EG 2 Z B6 (λf a=>?_);go_simp;apply (m _ A l).mono;rintro e c ⟨g,i⟩;obtain⟨⟨t,y,rfl,r⟩,o⟩:=(show(∃t y,e=Ak _/\Cv k c _ _ d)/\Ch c b {s with pos:=q,within:=wi}from i)
   simp only[];have F:AC c _=H (T w B z):=Cb ((g.block _ S E).trans n) 0;have hrel:Cg b _ c/\Ch c b _/\Cv k c _ _ d:=⟨g,o,r⟩
   refine a _ _ <| EG 3 Z B6 (λf a=>?_);go_simp;exact a _ _ <| Q ⟨t,y,c⟩ hrel
  go_simp;apply (m _ A l).mono;rintro e c ⟨g,i⟩;obtain⟨⟨t,y,rfl,r⟩,o⟩:=(show(∃t y,e=Ak _/\Cv k c _ _ d)/\Ch c b {s with pos:=q,within:=wi}from i)
  simp only[];have F:AC c _=H (T w B z):=Cb ((g.block _ S E).trans n) 0;have hrel:Cg b _ c/\Ch c b _/\Cv k c _ _ d:=⟨g,o,r⟩
  refine a _ _ <| KL 0 3 Z Z B6 (λf a=>?_) (λf a=>?_)
  .go_simp;refine a _ _ <| EG 3 Z B6 (λf a=>?_);go_simp;exact a _ _ <| Q ⟨t,y,c⟩ hrel
  go_simp;refine a _ _ <| EG 0 Z B6 (λf a=>?_);have c4:(Az c (M #[Ai t y] 89)).cell? _=H _:=(IV c _ _ (by rw[F];rfl)).trans F;go_simp;exact a _ _ <| Q ⟨t,y,c⟩ hrel
 case tail =>
  rintro⟨t,y,c⟩ ⟨g,o,r⟩;simp only[]at g o r ⊢;have P:=(Cg.of_below (Cq _ _).drew).trans g;have ae:=SC u P E;have av:=Cy aj P.size;simp only[List.foldl];refine EG 4 Z B6 (λf a=>?_);rw[Cn kek];apply QH Z underlying221 hi am an ao Z B8 Z (ae.alloc _) 1 1 Z Z (EI) (λaw hu=>by simp at hu;subst hu;rfl) B8 Bc E B7;intro v' w5 ac ab ak;have hJ:=h.push h0 af P o r n u ah al ac ab ak (AY h.len);have aa:=(ab.block _ B7 (λe=>AY (DK u e.symm))).trans ((Cx _ _ _ E).trans ((P.block _ (Cc n) E).trans n));have c5:AC w5 _=H (T w B z):=Cb aa 0;have f5:=Dq w5 _ 0 _ _ aa;obtain⟨g5,ap,rfl⟩:=ownsRow_succ ac;refine a _ _ <| EG 5 Z B6 (λf a=>?_);go_simp;refine a _ _ <| UY B6 ?_ _;go_end0;exact⟨Z,hJ⟩
theorem Pu:∀(g p b:I) (a l:A1) (r:I),Dr bs lim g p a b=.ok (l,r)->p<r/\O l+4*p<=O a+4*r
 |0,p,b,a,l,r,h=>by rw[Dr]at h;cases h
 |g+1,p,b,a,l,r,h=>by
  rw[Dr]at h;split at h
  .cases h
  split at h
  .cases h
  split at h
  .grind
  split at h
  .split at h
   .cases h
   next rr q hq =>
   have c:=Pu g q _ _ l r h;have d:=(VA hq).2;grind [Qv]
  split at h
  .cases h
  split at h
  .cases h
  have c:=Pu g _ _ _ l r h;grind
theorem Oe(bs:A1)(lim:J):∀(l:A1) (p:I) (u:Unit) (q:I),Dn bs lim l p=.ok (u,q)->q=p+O l
 |[],p,u,q,h=>kfd
 |x::xs,p,u,q,h=>by
  rw[Dn]at h;split at h
  .cases h
  split at h
  .cases h
  split at h
  .have:=Oe bs lim xs _ u q h;simp;omega
  cases h
theorem aG(h:J2 bs lim ks p=.ok (l,q)):p<q:=by
 unfold J2 at h;split at h
 .cases h
 next u q1 h1 =>
 split at h
 .cases h
 next l' r h2 =>
 split at h
 .cases h
 injection h with h;injection h with h3 h4;have:=Oe _ _ _ _ _ _ h1;have:=Pu _ _ _ _ _ _ h2;omega
def aI(W:Ap)(b m:AH)(s:Cs)(ks:AJ A1)(r:A5 A1)(e:Ending)(W':Ap):Prop :=
 Hv b m W W'/\match r with
 |.ok (l,p)=>e=Ak (Ae ⟨Aw l⟩)/\Ch W' b {s with pos:=p}/\ES W' m (l::ks)
 |.error (en,pl)=>CV en pl e
theorem p6(h:Ch W b s)(hk:ES W m ks)(ac:m≠b)(ai:∀ab off,s.bs≠[]->s.ia=H ⟨ab,off,Ao⟩->ab≠m)(ak:O ks<1000000000)(al:O s.bs<=200000000)(hU:∀V,Cg b W V->U8 V)(h7:7<b):Ar As 288 #[Ag #[A8 b],.map (H m)] W (aI W b m s ks (J2 s.bs s.lim ks s.pos)):=by
 have n:=G (KR h);have o:=Pk [34] Ba n.src;have cX:∀(V:X) (p:I),Ch V b _->Cg b W V->Ar _ _ _ V (GS V b {s with pos:=p} _ (Dr s.bs s.lim (O s.bs+1-p) p [] 0)):=λV p k g=>ZV k (hU V g) h7 al;have ae:∀(V:X) (p:I),Ch V b {s with pos:=p}->Ar _ _ _ V λe W'=>CV 12 (p-1) e/\W'=V:=λV p k=>FJ 12 k;have aa:D (∀V,Cg b W V->ES V m ks):=λV k=>hk.but ac k;have ad:D (∀V S p,Ch V b _->Cg m V S->Ch S b {s with pos:=p}):=λV S p k g=>k.off ac ai g;obtain⟨an,HR⟩:=CA (J2 s.bs s.lim ks s.pos);rw[AE HR];have a:=AE HR;unfold J2 at a;have t:=Cb n.box 0;rcases ha:Dn s.bs s.lim [34] s.pos with R|uq
 .rw[ha]at a o;simp only[]at a;subst a;obtain⟨u,pl⟩:=R;go_enter func288,ntmps288
  go_wp2_with(first
   |(go_at_call 274;apply o.mono;rintro e f ⟨i,j⟩;obtain rfl:=(show CV u pl e from j)))
  exact⟨Z,.of1 (n.but.trans i),Z⟩
 obtain⟨ao,q⟩:=uq;rw[ha]at a o;simp only[]at a;have w:=λV9 hs hb=>cX V9 q hs hb;rcases hz:Dr s.bs s.lim (O s.bs+1-q) q [] 0 with R|lr
 .rw[hz]at a w;simp only[]at a;subst a;obtain⟨u,pl⟩:=R;go_enter func288,ntmps288
  go_wp2_with(first
   |(go_at_call 274;apply o.mono;rintro e f ⟨i,j⟩;obtain⟨rfl,B⟩:=(show e=Ak (.tuple _)/\Ch f b _ from j);have c:=G (n.step B i);have t:=Cb c.box 0;have x:=w f c.src c.but)
   |(go_at_call 275;apply x.mono;rintro e v ⟨y,A⟩;obtain rfl:=(show CV u pl e from A)))
  exact⟨Z,.of1 (c.but.trans y),Z⟩
 obtain⟨l,r⟩:=lr;rw[hz]at a w;simp only[]at a;have am:=Pu _ _ _ _ _ _ hz;simp only[Je,Gw]at am;by_cases L:l∈ks
 .rw[Cn L]at a;subst a;have N:=G L;go_enter func288,ntmps288
  go_wp2_with(first
   |(go_at_call 274;apply o.mono;rintro e f ⟨i,j⟩;obtain⟨rfl,B⟩:=(show e=Ak (.tuple _)/\Ch f b _ from j);have c:=G (n.step B i);have t:=Cb c.box 0;have x:=w f c.src c.but)
   |(go_at_call 275;apply x.mono;rintro e v ⟨y,A⟩;obtain⟨rfl,F⟩:=(show e=Ak (.string _)/\Ch v b {s with pos:=r}from A);have d:=G (c.step F y);have P:D (O l<=1000000000):=(show _<=_ from by have h1:r<=O s.bs:=F.le;omega);have t:=Cb d.box 0)
   |(go_at_call 294;apply (ah (aa v d.but) N P).mono;rintro e w7 ⟨rfl,z⟩;have Q:=G (d.step (d.src.below z) (Cg.of_below z));have t:=Cb Q.box 0;have af:=ae w7 r Q.src)
   |(go_at_call 271;apply af.mono;rintro e w8 ⟨hF,rfl⟩;obtain rfl:=hF))
  exact⟨Z,.of1 Q.but,Z⟩
 rw[Ci L]at a;subst a;have N:=G L;go_enter func288,ntmps288
 go_wp2_with(first
  |(go_at_call 274;apply o.mono;rintro e f ⟨i,j⟩;obtain⟨rfl,B⟩:=(show e=Ak (.tuple _)/\Ch f b _ from j);have c:=G (n.step B i);have t:=Cb c.box 0;have x:=w f c.src c.but)
  |(go_at_call 275;apply x.mono;rintro e v ⟨y,A⟩;obtain⟨rfl,F⟩:=(show e=Ak (.string _)/\Ch v b {s with pos:=r}from A);have d:=G (c.step F y);have P:D (O l<=1000000000):=(show _<=_ from by have h1:r<=O s.bs:=F.le;omega);have t:=Cb d.box 0)
  |(go_at_call 294;apply (aj (aa v d.but) N ak P).mono;rintro e w7 ⟨rfl,ag,z⟩))
 go_ret;exact⟨(Hv.of1 d.but).trans (Hv.of2 z),Z,ad _ _ _ d.src z,ag⟩
structure Hw(k:Nat)(W:World)(b:Nat)(s:Cs)(N wi p:Nat)(a:List A1×List (Lit×DataW Unit))(V:World):Prop where
 src:Ch V b {s with pos:=p,within:=wi}
 but:Cg b W V
 rbox:V.heap[W.heap.size]?=some (.cells #[.pointer (some ⟨b,0,none⟩)] 215)
 kbox:V.heap[W.heap.size+3]?=some (.cells #[.map (some (W.heap.size+2))] 399)
 keys:ES V (W.heap.size+2) a.1
 box:V.heap[N]?=some (.cells #[.pointer (some ⟨b,0,none⟩)] 215)
 hN:W.heap.size+4<=N
 own:∃ad l c xs,V.heap[W.heap.size+1]?=some (.cells #[.slice ad l c] 223)/\V.ownsRow (W.heap.size+4) 225 2 (.slice ad l c) a.2.length xs/\some N≠(Value.slice ad l c).ownBlock/\Jn k V (λj=>W.heap.size+4<=j/\j<V.heap.size/\some j≠(Value.slice ad l c).ownBlock) xs a.2
 size:W.heap.size+4<=V.heap.size
 len:a.2.length<=p/\a.1.length<=p
theorem Hw.step{a:AJ A1×AJ (Lit×AM Unit)}(h:Hw k W b s N wi p a V)(hb:b<K (U W))(t:Ch V' b {s with pos:=q,within:=wi' })(d:Hv b (K (U W)+2) V V')(o:ES V' (K (U W)+2) ks)(r:O a.2<=q/\O ks<=q):Hw k W b s N wi' q (ks,a.2) V':=by obtain⟨g,l,c,u,f,i,m,n⟩:=h.own;have v:=h.hN;exact⟨t,h.but.trans' d,(d.block _ (Cc h.rbox) E E).trans h.rbox,(d.block _ (Cc h.kbox) E E).trans h.kbox,o,(d.block _ (Cc h.box) E E).trans h.box,h.hN,⟨g,l,c,u,(d.block _ (Cc f) E E).trans f,az i d E E,m,n.same (λj e=>⟨e.1,CK e.2.1 d.size,e.2.2⟩) (λj e=>d.block j e.2.1 E E)⟩,Cy h.size d.size,r⟩
theorem Hw.go'{a:AJ A1×AJ (Lit×AM Unit)}(h:Hw k W b s N wi p a V)(hb:b<K (U W))(e:Ch V' b {s with pos:=q,within:=wi' })(c:Cg b V V')(d:O a.2<=q/\O a.1<=q):Hw k W b s N wi' q a V' :=
 h.step (ks:=a.1) hb e (.of1 c) (h.keys.but E c) d
theorem Hw.go{a:AJ A1×AJ (Lit×AM Unit)}(h:Hw k W b s N wi p a V)(hb:b<K (U W))(d:Ch V' b {s with pos:=q,within:=wi' })(c:Cg b V V')(e:p<=q):Hw k W b s N wi' q a V' :=
 h.go' hb d c ⟨AY h.len.1,AY h.len.2⟩
theorem Hw.push{key:A1}{l c:I}(h:Hw k W b s N wi p (ks,es) V)(h0:Ch W b s)(hb:b<K (U W))(m:Cg b V V3)(hS:Ch V3 b {s with pos:=q,within:=wi})(hd:Cv k V3 (λj=>K (U V)<=j/\j<K (U V3)) x d)(P:V.heap[K (U W)+1]?=H (M #[T a l c] 223))(B:V.ownsRow (K (U W)+4) 225 2 (T a l c) (O es) xs)(ah:H N≠Ax (AX a l c))(aj:Jn k V (λj=>K (U W)+4<=j/\j<K (U V)/\H j≠Ax (AX a l c)) xs es)(F:w5.ownsRow (K (U W)+4) 225 2 v' (O es+1) (xs++[Ae ⟨Aw key⟩,x]))(n:(Az V3 (M #[Ae ⟨Aw key⟩,x] 225)).grownBy w5 (Ax (AX a l c)))(t:Ax v'=Ax (AX a l c)\/Ax v'=H (K (U (Az V3 (M #[Ae ⟨Aw key⟩,x] 225)))))(ao:O es+1<=q)(ag:O ks<=q):Hw k W b s N wi q (ks,es++[(.string key,d)]) (AB w5 ⟨K (U W)+1,0,Ao⟩ v'):=by
 have ap:=h.size;have hN:=h.hN;have ac:=Cc h.box;have al:=m.size;have am:K (U V3)+1<=K (U w5):=BQ;have an:∀g,Ax (AX a l c)=H g->K (U W)+4<=g:=λg n=>DK B n;have ar:=Ps B;have u:∀j,j<K (U V3)->H j≠Ax (AX a l c)->j≠K (U W)+1->(AB w5 ⟨_,0,Ao⟩ v').heap[j]?=V3.heap[j]?:=λj f o A=>(CY w5 _ _ _ C4).trans ((n.block j B7 o).trans (Cx _ _ _ f));have v:∀j,j<K (U W)+4->j≠K (U W)+1->(AB w5 _ v').heap[j]?=V3.heap[j]?:=λj f A=>u j E (λe=>B9) A;have ab:=(n.block _ B7 (λe=>B9)).trans ((Cx _ _ _ E).trans ((m.block _ (Cc P) E).trans P));have S:K (U (AB w5 ⟨K (U W)+1,0,Ao⟩ v'))=K (U w5):=Bd;have af:ES (AB w5 ⟨K (U W)+1,0,Ao⟩ v') (K (U W)+2) ks:=by have h1:ES V3 _ ks:=h.keys.but E m;have z:ES (Az V3 (M #[Ae ⟨Aw key⟩,x] 225)) _ ks:=h1.but (b:=K (U W)+1) E (Cg.of_below Cl);have h3:=z.kept n (λe=>B9);exact h3.but (b:=K (U W)+1) E ⟨Z,Z,Z,Bd,λj _ f=>CY w5 _ _ _ ker⟩
 obtain⟨L,w,rfl⟩:=ownsRow_succ F;have ai:(AB w5 ⟨K (U W)+1,0,Ao⟩ (T (H ⟨L,0,Ao⟩) (O es+1) w)).ownsRow (K (U W)+4) 225 2 (T (H ⟨L,0,Ao⟩) (O es+1) w) (O es+1) (xs++[Ae ⟨Aw key⟩,x]):=by
  refine⟨F.1,?_⟩;rcases F.2 with z|⟨g,y,aa,e,ad,ae,h5⟩
  .exact AF z
  exact AG ⟨g,y,aa,e,ad,(CY w5 _ _ _ B7).trans ae,h5⟩
 have Q:∀j,j<K (U V3)->H j≠Ax (AX a l c)->H j≠Ax (AX _ _ w):=λj f o=>by
  rcases t with t|t
  .rw[t];exact o
  rw[t];intro e;injection e with e;simp at e;omega
 refine⟨h0.same Z Z hS (λj f=>v j E E),⟨n.os.trans (m.os.trans h.but.os),n.tape.trans (m.tape.trans h.but.tape),n.output.trans (m.output.trans h.but.output),E,λj f o=>(v j E E).trans ((m.block j E o).trans (h.but.block j f o))⟩,(v _ E E).trans ((m.block _ E E).trans h.rbox),(v _ E E).trans ((m.block _ E E).trans h.kbox),af,(u N E ah E).trans ((m.block N ac E).trans h.box),h.hN,⟨_,_,_,_,?_,by rw[Dc];exact ai,?_,λi ak dd r=>?_⟩,by rw[S];omega,⟨B9,ag⟩⟩
 .rw[DQ _ _ _ _ _ _ ab];rfl
 .grind
 have aq:=B.1;by_cases hi:i<O es
 .rw[GM hi]at r;obtain⟨l',x',e1,e2,e3,e4⟩:=aj i ak dd r;refine⟨l',x',e1,B9,B9,?_⟩;exact e4.same (λj f=>⟨f.1,E,Q j E f.2.2⟩) (λj f=>(u j E f.2.2 E).trans (m.block j f.2.1 E))
 have e:i=O es:=B9;subst e;rw[IU E]at r;simp at r;obtain⟨rfl,rfl⟩:=r;have R:∀j,K (U V)<=j->H j≠Ax (AX a l c):=λj f e=>B9;refine⟨key,x,Z,?_,?_,hd.same (λj f=>⟨E,by rw[S];omega,Q j f.2 (R j f.1)⟩) (λj f=>u j f.2 (R j f.1) E)⟩<;>grind
theorem p7(h0:Ch W b s)(a1:Pt k b {s with within:=wi} W rd)(a4:∀p d q,rd p=.ok (d,q)->p<q)(a5:O s.bs<=200000000)(hU:∀V,Cg b W V->U8 V)(h7:7<b){a:AJ A1×AJ (Lit×AM Unit)}(h:Hw k W b s N wi p a V):Ar As 287 #[A8 (K (U W)),A8 (K (U W)+3),A8 (K (U W)+1)] V (SF (Hw k W b s N wi) (λV=>Cg b W V) (Fk s.bs s.lim rd a p)):=by
 obtain⟨i0,hi,bb,bc,bd⟩:=DD Tryz.infoEntry;have af:=Cc h0.row;have ax:∀aj off,s.bs≠[]->s.ia=H ⟨aj,off,Ao⟩->aj≠K (U W)+2:=λaj off ay e=>by have hl:0<O s.bs:=B9;obtain⟨g',bk,e1,_,e3⟩:=h0.inp 0 hl;rw[e]at e1;injection e1 with e1;injection e1 with e1;have:g'<K (U W):=FF e3;omega
 have ab:=G h;have cK:Ar _ _ _ V (aI V b _ _ _ (J2 s.bs s.lim _ p)):=p6 h.src h.keys E ax (by have r:=h.len.2;have A:p<=O s.bs:=h.src.le;omega) a5 (λw h9=>hU w (h.but.trans h9)) h7;have cS:∀(V:X) (p:I),Ch V b _->Ar _ _ _ V (GS V b {s with pos:=p,within:=wi} _ (DL s.bs s.lim (O s.bs+1-p) p)):=λV p hV=>Qt hV;have cR:∀(V:X) (p:I),Ch V b _->Ar _ _ _ V (GS V b {s with pos:=p,within:=wi} _ (Dn s.bs s.lim _ p)):=λV p hV=>Pk [58] Ba hV;have ai:∀(w:X) (q:I),Ch w b {s with pos:=q,within:=wi}->Cg b W w->Ar _ _ _ w (Od k w b {s with pos:=q,within:=wi} _):=λw q r A=>a1 w q r A;have g:=Cb h.rbox 0;have k2:=Cb h.kbox 0;clear h a1 hU ax;obtain⟨be,HR⟩:=CA (Fk s.bs s.lim rd a p);rw[AE HR];have o:=AE HR;unfold Fk at o;clear HR;go_enter func287,ntmps287
 go_wp2_with fail
 apply cK.mono;clear cK;rintro e w1 ⟨ak,ac⟩;rcases r:J2 s.bs s.lim a.1 p with Q|lq
 .obtain⟨z,F⟩:=Q;simp only[r]at o ac;subst o;clear r cS cR ai;obtain rfl:=(show CV z F e from ac)
  go_wp2;exact⟨Z,Z,ab.out.but.trans' ak⟩
 obtain⟨key,q1⟩:=lq;have bh:=aG r;simp only[r]at o ac;clear r;obtain⟨rfl,ar,ap⟩:=(show e=Ak _/\Ch w1 b _/\ES w1 _ _ from ac)
 have H1:=G (ab.out.step af ar ak ap ⟨AY ab.out.len.1,by have:=ab.out.len.2;grind⟩);clear ab ar ak ap ac g k2;have g:=Cb H1.rbox 0
 go_wp2_with fail
 apply (cS w1 q1 H1.src).mono;rintro e w2 ⟨al,ad⟩;rcases A:DL s.bs s.lim (O s.bs+1-q1) q1 with Q|uq
 .obtain⟨z,F⟩:=Q;simp only[A]at o ad;subst o;clear A;obtain rfl:=(show CV z F e from ad)
  go_wp2;exact⟨Z,Z,H1.but.trans al⟩
 obtain⟨u2,q2⟩:=uq;have a6:=KY _ _ _ _ A;simp only[A]at o ad;clear A;obtain⟨rfl,au⟩:=(show e=Ak _/\Ch w2 b _ from ad)
 have H2:=G (H1.go af au al a6);clear H1 au al ad g;have g:=Cb H2.rbox 0
 go_wp2_with fail
 apply (cR w2 q2 H2.src).mono;rintro e f ⟨m,n⟩;rcases h3:Dn s.bs s.lim [58] q2 with Q|uq
 .obtain⟨z,F⟩:=Q;simp only[h3]at o n;subst o;clear h3;obtain rfl:=(show CV z F e from n)
  go_wp2;exact⟨Z,Z,H2.but.trans m⟩
 obtain⟨u3,q3⟩:=uq;have a7:q2<=q3:=AY (Oe _ _ _ _ _ _ h3);simp only[h3]at o n;clear h3;obtain⟨rfl,B⟩:=(show e=Ak _/\Ch f b _ from n)
 have H3:=G (H2.go af B m a7);clear H2 B m n g;have g:=Cb H3.rbox 0
 go_wp2_with fail
 apply (cS f q3 H3.src).mono;rintro e P ⟨am,ae⟩;rcases h4:DL s.bs s.lim (O s.bs+1-q3) q3 with Q|uq
 .obtain⟨z,F⟩:=Q;simp only[h4]at o ae;subst o;clear h4;obtain rfl:=(show CV z F e from ae)
  go_wp2;exact⟨Z,Z,H3.but.trans am⟩
 obtain⟨u4,q4⟩:=uq;have a8:=KY _ _ _ _ h4;simp only[h4]at o ae;clear h4;obtain⟨rfl,av⟩:=(show e=Ak _/\Ch P b _ from ae)
 have L:=G (H3.go af av am a8);clear H3 av am ae g
 go_wp2_with fail
 have u:=λw r A=>ai w q4 r A;clear ai;obtain⟨a0,l0,c0,xs,R,ho,ay,ao⟩:=L.own;have ho:P.ownsRow _ _ 2 _ (O a.2) xs:=ho;have ao:Jn k P _ xs a.2:=ao;have an:K (U W)+1<K (U (World.drew P)):=Cc R;have aa:=L.src.below (Cq _ _).drew;have S:=L.but.trans (Cg.of_below (Cq _ _).drew);have k0:(World.drew P).cell? _=H (T a0 l0 c0):=Cb R 0;have g:(World.drew P).cell? _=H (.pointer _):=Cb L.rbox 0;have a9:=L.size;apply RZ B6;change wpAny _ _ _ _ _ _ _ (World.drew P);apply wpAny_take (i:=1) (v:=.string _) Z B6 B6 B6 (λ_ _ _ h=>h) (AF ⟨Z,λw=>rfl⟩);rcases h5:rd q4 with Q|dq
 .obtain⟨z,F⟩:=Q;simp only[h5]at o;subst o;rw[h5]at u;clear h5;refine KL 0 2 Z Z B6 (λl c=>?_) (λl c=>?_)
  .go_simp;apply c _ _;clear c;refine EG 2 Z B6 (λl c=>?_);go_simp;apply c _ _;clear c;refine EG 3 Z B6 (λl c=>?_);go_simp;apply (u _ aa S).mono;rintro e f ⟨m,n⟩;obtain rfl:=(show CV z F e from n)
   exact⟨Z,Z,S.trans m⟩
  go_simp;apply c _ _;clear c;refine KL 0 3 Z Z B6 (λl c=>?_) (λl c=>?_)
  .go_simp;apply c _ _;clear c;refine EG 3 Z B6 (λl c=>?_);go_simp;apply (u _ aa S).mono;rintro e f ⟨m,n⟩;obtain rfl:=(show CV z F e from n)
   exact⟨Z,Z,S.trans m⟩
  go_simp;apply (u _ aa S).mono;rintro e f ⟨m,n⟩;obtain rfl:=(show CV z F e from n)
  exact⟨Z,Z,S.trans m⟩
 obtain⟨d,q5⟩:=dq;have bi:=a4 q4 d q5 h5;simp only[h5]at o;subst o;rw[h5]at u;clear h5;have bg:O a.2<=200000000:=by have r:O a.2<=q4:=L.len.1;have A:q4<=O s.bs:=L.src.le;omega
 refine aF (β:=AN×Aq×X) #[AP,AP,AP,AP,AP,AP,AQ,AQ] 2 (λx=>[(13,T a0 l0 c0),(15,Ag #[A8 b]),(16,Ai x.1 x.2.1),(17,Ag #[Ae ⟨Aw key⟩,Ai x.1 x.2.1]),(18,T (Aa (K (U x.2.2))) 1 1)]) (λx=>Cg b (World.drew P) x.2.2/\Ch x.2.2 b {s with pos:=q5,within:=wi}/\Cv k x.2.2 (λa2=>K (U (World.drew P))<=a2/\a2<K (U x.2.2)) (Ai x.1 x.2.1) d) (λx=>x.2.2.alloc (M #[Ae ⟨Aw key⟩,Ai x.1 x.2.1] 225)) (λag=>?reg) ?tail
 case reg =>
  refine KL 0 2 Z Z B6 (λl c=>?_) (λl c=>?_)
  .go_simp;apply c _ _;clear c;refine EG 2 Z B6 (λl c=>?_);go_simp;apply c _ _;clear c;refine EG 3 Z B6 (λl c=>?_);go_simp;apply (u _ aa S).mono;rintro e f ⟨m,n⟩;obtain⟨⟨t,y,rfl,j⟩,B⟩:=(show(∃t y,e=Ak _/\Cv k f _ _ d)/\Ch f b {s with pos:=q5,within:=wi}from n)
   simp only[];have c3:AC f _=H (T a0 l0 c0):=Cb ((m.block _ an E).trans R) 0;have hrel:Cg b _ f/\Ch f b _/\Cv k f _ _ d:=⟨m,B,j⟩
   apply c _ _;clear c;refine EG 4 Z B6 (λl c=>?_);go_simp;apply c _ _;clear c;refine EG 5 Z B6 (λl c=>?_);go_simp;apply c _ _;clear c;exact ag ⟨t,y,f⟩ hrel
  go_simp;apply c _ _;clear c;refine KL 0 3 Z Z B6 (λl c=>?_) (λl c=>?_)
  .go_simp;apply c _ _;clear c;refine EG 3 Z B6 (λl c=>?_);go_simp;apply (u _ aa S).mono;rintro e f ⟨m,n⟩;obtain⟨⟨t,y,rfl,j⟩,B⟩:=(show(∃t y,e=Ak _/\Cv k f _ _ d)/\Ch f b {s with pos:=q5,within:=wi}from n)
   simp only[];have c3:AC f _=H (T a0 l0 c0):=Cb ((m.block _ an E).trans R) 0;have hrel:Cg b _ f/\Ch f b _/\Cv k f _ _ d:=⟨m,B,j⟩
   apply c _ _;clear c;refine EG 4 Z B6 (λl c=>?_);go_simp;apply c _ _;clear c;refine EG 5 Z B6 (λl c=>?_);go_simp;apply c _ _;clear c;exact ag ⟨t,y,f⟩ hrel
  go_simp;apply (u _ aa S).mono;rintro e f ⟨m,n⟩;obtain⟨⟨t,y,rfl,j⟩,B⟩:=(show(∃t y,e=Ak _/\Cv k f _ _ d)/\Ch f b {s with pos:=q5,within:=wi}from n)
  simp only[];have c3:AC f _=H (T a0 l0 c0):=Cb ((m.block _ an E).trans R) 0;have hrel:Cg b _ f/\Ch f b _/\Cv k f _ _ d:=⟨m,B,j⟩
  apply c _ _;clear c;refine KL 0 4 Z Z B6 (λl c=>?_) (λl c=>?_)
  .go_simp;apply c _ _;clear c;refine EG 4 Z B6 (λl c=>?_);go_simp;apply c _ _;clear c;refine EG 5 Z B6 (λl c=>?_);go_simp;apply c _ _;clear c;exact ag ⟨t,y,f⟩ hrel
  go_simp;apply c _ _;clear c;refine KL 0 5 Z Z B6 (λl c=>?_) (λl c=>?_)
  .go_simp;apply c _ _;clear c;refine EG 5 Z B6 (λl c=>?_);go_simp;apply c _ _;clear c;exact ag ⟨t,y,f⟩ hrel
  go_simp;apply c _ _;clear c;refine EG 0 Z B6 (λl c=>?_);have c4:(Az f (M #[Ae ⟨Aw key⟩,Ai t y] 225)).cell? _=H _:=(IV f _ _ (by rw[c3];rfl)).trans c3;go_simp;apply c _ _;clear c;exact ag ⟨t,y,f⟩ hrel
 case tail =>
  rintro⟨t,y,f⟩ ⟨m,B,j⟩;simp only[]at m B j ⊢;have ah:=(Cg.of_below (Cq _ _).drew).trans m;have a3:=SC ho ah E;have bj:=Cy a9 ah.size;simp only[List.foldl];refine EG 6 Z B6 (λl c=>?_);rw[Cn kek];refine QH Z underlying223 hi bb bc bd Z B8 Z (a3.alloc _) 1 1 Z Z (EI) (λbl hu=>BD) B8 Bc E B7 ?_;intro v' w5 az aw ba;have hJ:Hw k W b s N wi q5 (key::a.1,a.2++[(.string key,d)]) (AB w5 ⟨K (U W)+1,0,Ao⟩ v'):=L.push h0 af ah B j R ho ay ao az aw ba (by have r:O a.2<=q4:=L.len.1;omega) (by have r:O (key::a.1)<=q4:=L.len.2;omega);have aq:A7 w5 (K (U W)+1) #[T a0 l0 c0] 223:=(aw.block _ B7 (λe=>AY (DK ho e.symm))).trans ((Cx _ _ _ E).trans ((ah.block _ (Cc R) E).trans R));have c5:AC w5 _=H (T a0 l0 c0):=Cb aq 0;have f5:=Dq w5 _ 0 _ _ aq;obtain⟨g5,bf,rfl⟩:=ownsRow_succ az;apply c _ _;clear c;refine EG 7 Z B6 (λl c=>?_);go_simp;apply c _ _;clear c;refine UY B6 ?_ _;go_end0;exact⟨Z,hJ⟩
def SG{α:Type}(W:Ap)(b:AH)(s:Cs)(val:Ap->Aq->α->Prop)(r:A5 α)(e:Ending)(W':Ap):Prop :=
 Cg b W W'/\match r with
 |.ok (x,p)=>(∃v,e=Ak v/\val W' v x)/\Ch W' b {s with pos:=p}
 |.error (en,pl)=>CV en pl e
theorem p8(hb:b<K (U W)):VM b s (KZ k W b s) (λV=>Cg b W V) :=
 ⟨λ_ _ _ _ _ h=>h.src,λ_ _ _ _ _ _ _ _ h c a d=>h.step hb c a (AY h.len),λ_ _ _ _ _ h=>h.box,λ_ _ _ _ _ h=>h.but,λ_ _ h a=>h.trans a⟩
theorem p9(hb:b<K (U W)):VM b s (Hw k W b s) (λV=>Cg b W V) :=
 ⟨λ_ _ _ _ _ h=>h.src,λ_ _ _ _ _ _ _ _ h d a c=>h.go hb d a c,λ_ _ _ _ _ h=>h.box,λ_ _ _ _ _ h=>h.but,λ_ _ h a=>h.trans a⟩
theorem aJ(c:∀p d q,rd p=.ok (d,q)->p<q):∀a p b q,FL rd a p=.ok (b,q)->p<q:=λa p b q h=>by grind [FL]
theorem VN(c:∀p d q,rd p=.ok (d,q)->p<q):∀a p b q,Fk bs lim rd a p=.ok (b,q)->p<q:=λa p b q h=>by
 unfold Fk at h;split at h
 .cases h
 next l p1 h1 =>
 split at h
 .cases h
 next u2 p2 h2 =>
 split at h
 .cases h
 next u3 p3 h3 =>
 split at h
 .cases h
 next u4 p4 h4 =>
 split at h
 .cases h
 next d p5 h5 =>
 injection h with h;injection h with h6 h7;have:=aG h1;have:=KY _ _ _ _ h2;have:=Oe _ _ _ _ _ _ h3;have:=KY _ _ _ _ h4;grind
theorem pb(k:I)(h:Ch W b s):KZ k W b s (K (U W)+2) s.within s.pos [] (Az (Az (Az W (M #[A8 b] 215)) (M #[T Ao 0 0] 221)) (M #[A8 b] 215)):=by have a:Below _ W (Az (Az (Az W (M #[A8 b] 215)) (M #[T Ao 0 0] 221)) (M #[A8 b] 215)):=((Cl).alloc Ba _).alloc B7 _;refine⟨h.below a,Cg.of_below a,?_,?_,Co _,⟨Ao,0,0,[],?_,Fa _ _ _ _,by simp[Value.ownBlock],λi x d c=>kfk⟩,Ba,En _⟩<;>grind [Below.heap_alloc,Cj,World.size_alloc]
theorem pd(k:I)(h:Ch W b s):Hw k W b s (K (U W)+4) s.within s.pos ([],[]) (Az (Az (Az (Az (Az W (M #[A8 b] 215)) (M #[T Ao 0 0] 223)) (.map #[] 0)) (M #[.map (H (K (U W)+2))] 399)) (M #[A8 b] 215)):=by
 have a:Below _ W (Az (Az (Az (Az (Az W (M #[A8 b] 215)) (M #[T Ao 0 0] 223)) (.map #[] 0)) (M #[.map (H (K (U W)+2))] 399)) (M #[A8 b] 215)):=((((Cl).alloc Ba _).alloc B7 _).alloc B7 _).alloc B7 _;generalize hA:Az W (M #[A8 b] 215)=A at *;have c:K (U A)=K (U W)+1:=by rw[<-hA];simp
 have g:A7 A (K (U W)) #[A8 b] 215:=by grind [Cj]
 generalize hC:A.alloc (M #[T Ao 0 0] 223)=C at *;have n:K (U C)=K (U W)+2:=by rw[<-hC];simp[c]
 have j:A7 C (K (U W)) #[A8 b] 215:=by grind [Below.heap_alloc]
 have m:A7 C (K (U W)+1) #[T Ao 0 0] 223:=by grind [Cj]
 have e:ES (C.alloc (.map #[] 0)) (K (U W)+2) []:=⟨.map [],by grind [World.ownsMap_made],λl=>kfa⟩
 refine⟨h.below a,Cg.of_below a,?_,?_,?_,?_,Co _,⟨Ao,0,0,[],?_,Fa _ _ _ _,by simp[Value.ownBlock],λi x d f=>by simp at f⟩,B7,⟨En _,En _⟩⟩
 .grind [Below.heap_alloc]
 .grind [Below.heap_alloc,Cj,World.size_alloc]
 .exact(e.but (b:=K (U W)) E (Cg.of_below Cl)).but (b:=K (U W)) E (Cg.of_below Cl)
 .grind [Cj,World.size_alloc]
 grind [Below.heap_alloc]
theorem pe(k:I)(h:Ch W b s)(aa:Pt k b {s with within:=s.within+1} W rd)(y:∀p d q,rd p=.ok (d,q)->p<q)(x:O s.bs<=200000000)(r:¬(s.within:J)=s.depth)(ab:s.within<=100000):Ar As 276 #[Ag #[A8 b]] W (SG W b s (λV v m=>(∃a ae c,v=T a ae c)/\Cv (k+1) V (λj=>K (U W)<=j/\j<K (U V)) (Ai 221 v) (.agg m)) (G3 s.bs s.lim (FL rd) 93 s.pos [])):=by
 have n:=Cc h.row;have N:Below _ W (Az (Az W (M #[A8 b] 215)) (M #[T Ao 0 0] 221)):=(Cl).alloc Ba _;have f:=aE 93 _ _ (λ_ _=>B6) [] (p8 n) (h.below N) r ab (by grind [World.size_alloc,pb]) (λag p m V hV=>oZ h aa y x hV) (aJ y);have kr:(Az (Az W (M #[.pointer _] 215)) (M #[T Ao 0 0] 221)).cell? _=H (A8 b):=Cb ((Cx _ _ _ Ba).trans (Cj W)) 0;rcases hr:G3 s.bs s.lim (FL rd) 93 s.pos []with R|P
 .obtain⟨Q,pl⟩:=R;rw[hr]at f;go_enter func276,ntmps276
  go_wp2_with(first
   |(go_at_call 285;apply f.mono;rintro e t hF;obtain⟨hF,i⟩:=(show CV Q pl e/\Cg b W t from hF);obtain rfl:=hF))
  exact⟨Z,i,Z⟩
 obtain⟨m,q⟩:=P;rw[hr]at f;go_enter func276,ntmps276
 go_wp2_with(first
  |(go_at_call 285;apply f.mono;rintro e t hF;obtain⟨rfl,o⟩:=(show e=Ak _/\KZ k W b s _ _ q m t from hF);obtain⟨a,ai,c,xs,hL,ho,ah,ac⟩:=o.own;have kl:=Cb hL 0;have u:=G ho;have B:=G ac;have z:=G o.but;have A:=G o.src))
 go_ret;refine⟨z,⟨_,Z,⟨_,_,_,Z⟩,?_⟩,A⟩;unfold Cv;refine⟨_,xs,Z,⟨u.1,?_⟩,λad af d hx r=>(B ad af d hx r).same (λj hj=>⟨E,hj.2.1⟩) (λ_ _=>rfl)⟩;rcases u.2 with S|⟨g,F,L,e,hb,w,l⟩
 .exact AF S
 exact AG ⟨g,F,L,e,⟨E,(Cc w)⟩,w,l⟩
theorem pf(k:I)(h:Ch W b s)(ab:Pt k b {s with within:=s.within+1} W rd)(u:∀p d q,rd p=.ok (d,q)->p<q)(aa:O s.bs<=200000000)(hU:∀V,Cg b W V->U8 V)(R:7<b)(hd:¬(s.within:J)=s.depth)(ac:s.within<=100000):Ar As 277 #[Ag #[A8 b]] W (SG W b s (λV v i=>(∃a ae c,v=T a ae c)/\Cv (k+1) V (λj=>K (U W)<=j/\j<K (U V)) (Ai 223 v) (.map i.2)) (G3 s.bs s.lim (Fk s.bs s.lim rd) 125 s.pos ([],[]))):=by
 have n:=Cc h.row;have ag:∀V:X,(Instr.makeMap 399 Ao).run As V=.ok (.map (H (K (U V)))) (Az V (.map #[] 0)):=λV=>B6;have S:Below _ W (Az (Az (Az (Az W (M #[A8 b] 215)) (M #[T Ao 0 0] 223)) (.map #[] 0)) (M #[.map (H (K (U W)+2))] 399)):=(((Cl).alloc Ba _).alloc B7 _).alloc B7 _;have f:=aE 125 _ _ (λ_ _=>B6) ([],[]) (p9 n) (h.below S) hd ac (by grind [World.size_alloc,pd]) (λaf p i V hV=>p7 h ab u aa hU R hV) (VN u);have kr:(Az (Az (Az (Az W (M #[.pointer _] 215)) (M #[T Ao 0 0] 223)) (.map #[] 0)) (M #[.map (H (K (U W)+2))] 399)).cell? _=H (A8 b):=Cb ((Cx _ _ _ B7).trans ((Cx _ _ _ B7).trans ((Cx _ _ _ Ba).trans (Cj W)))) 0;rcases hr:G3 s.bs s.lim (Fk s.bs s.lim rd) 125 s.pos ([],[])with L|B
 .obtain⟨F,pl⟩:=L;rw[hr]at f;go_enter func277,ntmps277
  go_wp2_with(first
   |(go_at_call 285;apply f.mono;rintro e o hF;obtain⟨hF,l⟩:=(show CV F pl e/\Cg b W o from hF);obtain rfl:=hF))
  exact⟨Z,l,Z⟩
 obtain⟨i,q⟩:=B;rw[hr]at f;go_enter func277,ntmps277
 go_wp2_with(first
  |(go_at_call 285;apply f.mono;rintro e o hF;obtain⟨rfl,m⟩:=(show e=Ak _/\Hw k W b s _ _ q i o from hF);obtain⟨a,ai,c,xs,N,ho,ah,ad⟩:=m.own;have kl:=Cb N 0;have r:=G ho;have y:=G ad;have w:=G m.but;have x:=G m.src))
 go_ret;refine⟨w,⟨_,Z,⟨_,_,_,Z⟩,?_⟩,x⟩;unfold Cv;refine⟨_,xs,Z,⟨r.1,?_⟩,y.same (λj hj=>⟨E,hj.2.1⟩) (λ_ _=>rfl)⟩;rcases r.2 with P|⟨g,z,A,e,hb,t,Q⟩
 .exact AF P
 exact AG ⟨g,z,A,e,⟨E,(Cc t)⟩,t,Q⟩
theorem aK(last:J)(f:Fn)(g cs:A3)(h:Ch W b s)(j:(s.within:J)=s.depth):Ar As 285 #[Ag #[A8 b],C Am last,.func f g cs] W λe c=>CV 11 ((s.pos:J)-1) e/\Cg b W c:=by
 have a:=G (KR h);have d:=am a.src j;have k:=Cb a.box 0;go_enter func285,ntmps285;go_wp2;go_step3
 go_wp2_with(first
  |(go_at_call 265;apply d.mono;rintro e l ⟨hF,i,_⟩;obtain rfl:=hF))
 exact⟨Z,Z,a.but.trans i⟩
theorem pg(h:Ch W b s)(k:(s.within:J)=s.depth):Ar As 276 #[Ag #[A8 b]] W λe d=>CV 11 ((s.pos:J)-1) e/\Cg b W d:=by
 have a:Below _ W (Az (Az W (M #[A8 b] 215)) (M #[T Ao 0 0] 221)):=(Cl).alloc Ba _;have c:D (Cg b W _):=Cg.of_below a;have f:=λlast g i cs=>aK last g i cs (h.below a) k;have l:(Az (Az W (M #[.pointer _] 215)) (M #[T Ao 0 0] 221)).cell? _=H (A8 b):=Cb ((Cx _ _ _ Ba).trans (Cj W)) 0;go_enter func276,ntmps276
 go_wp2_with(first
  |(go_at_call 285;apply (f _ _ _ _).mono;rintro e m ⟨hF,j⟩;obtain rfl:=hF))
 exact⟨Z,Z,c.trans j⟩
theorem ph(h:Ch W b s)(k:(s.within:J)=s.depth):Ar As 277 #[Ag #[A8 b]] W λe d=>CV 11 ((s.pos:J)-1) e/\Cg b W d:=by
 have a:Below _ W (Az (Az (Az (Az W (M #[A8 b] 215)) (M #[T Ao 0 0] 223)) (.map #[] 0)) (M #[.map (H (K (U W)+2))] 399)):=(((Cl).alloc Ba _).alloc B7 _).alloc B7 _;have c:D (Cg b W _):=Cg.of_below a;have l:∀V:X,(Instr.makeMap 399 Ao).run As V=.ok (.map (H (K (U V)))) (Az V (.map #[] 0)):=λV=>B6;have f:=λlast g i cs=>aK last g i cs (h.below a) k;have m:(Az (Az (Az (Az W (M #[.pointer _] 215)) (M #[T Ao 0 0] 223)) (.map #[] 0)) (M #[.map (H (K (U W)+2))] 399)).cell? _=H (A8 b):=Cb ((Cx _ _ _ B7).trans ((Cx _ _ _ B7).trans ((Cx _ _ _ Ba).trans (Cj W)))) 0;go_enter func277,ntmps277
 go_wp2_with(first
  |(go_at_call 285;apply (f _ _ _ _).mono;rintro e n ⟨hF,j⟩;obtain rfl:=hF))
 exact⟨Z,Z,c.trans j⟩
theorem VO{most:I}{z:AK}:∀{g p num:I} {x q:I},DZ bs lim most z g p num=.ok (x,q)->p<=q
 |0,p,num,x,q,h=>by grind [DZ]
 |g+1,p,num,x,q,h=>by
  unfold DZ at h;split at h
  .grind
  split at h
  .cases h
  split at h
  .split at h
   .cases h
   split at h
   .cases h
   have:=VO h;omega
  grind
theorem VP(d:c.toNat=45\/Eh c=AP)(h:GT s c=.ok (z,q)):(-9223372036854775808<=z/\z<=9223372036854775807)/\s.pos<=q:=by
 unfold GT at h;split at h
 .split at h
  .cases h
  split at h
  .cases h
  split at h
  .next c' _ _ a =>
   have b:=Dk a;split at h
   .next x p hx =>
    injection h with h;injection h with h1 h2;have:=Qs E B8 hx;have:=VO hx;omega
   cases h
  cases h
 next hn =>
 have a:Eh c=AP:=B9;have b:=Dk a;split at h
 .next x p hx =>
  injection h with h;injection h with h1 h2;have:=Qs E B8 hx;have:=VO hx;omega
 cases h
def Hx(s:Cs)(c:AU)(p:AH):A5 AI:=GT {s with pos:=p} c
theorem Of(k:J){p:AK}(h:AR ((c.toNat:J)=k)=p:=by(first|exact F4 (by omega)|exact Fv (by omega))):((c.toNat:J)==k)=p:=E
theorem pj{p:AK}(h:AR (48<=(c.toNat:J)/\(c.toNat:J)<=57)=p:=by(first|exact F4 (by omega)|exact Fv (by omega))):AR (48<=(c.toNat:J)/\(c.toNat:J)<=57)=p:=h
def L0(W:Ap)(b:AH)(s:Cs)(f:FuncId)(args:A3)(R:AS (AI×AI) (AM Unit×AH))(val:Ap->Ap->Aq->A2->Prop):Prop :=
 ∀V,Ch V b s.next->Cg b W V->Ar As f args V λe W'=>Cg b V W'/\match R with
 |.ok (d,q)=>(∃v,e=Ak v/\val V W' v d)/\Ch W' b {s with pos:=q}
 |.error (en,pl)=>CV en pl e
theorem Og{α:Type}{f:FuncId}{R:AS (J×J) (AM Unit×I)}{val:X->X->Aq->A2->Prop}{vl:X->X->Aq->α->Prop}(r:A5 α)(k:α->A2)(c:∀V,Ch V b s.next->Cg b W V->Ar As f args V (SG V b s.next (vl V) r))(m:∀V a v x q,r=.ok (x,q)->vl V a v x->val V a v (k x))(g:(∀e,r=.error e->R=.error e)/\∀x q,r=.ok (x,q)->R=.ok (k x,q):=by exact⟨λe d=>by rw[d]at hr;exact hr.symm,λx q d=>by rw[d]at hr;exact hr.symm⟩):L0 W b s f args R val:=λV j l=>(c V j l).mono λe a h=>by
 rcases r with n|⟨x,q⟩
 .obtain rfl:=g.1 _ rfl;exact h
 obtain rfl:=g.2 _ _ rfl;exact⟨h.1,h.2.1.imp λv i=>⟨i.1,m V a v x q Z i.2⟩,h.2.2⟩
theorem QI{α:Type}{val:α->Aq}{r:A5 α}{f:FuncId}(h:Ar As f args V (GS V b s val r)):Ar As f args V (SG V b s (λ_ v x=>v=val x) r):=h.mono λe a h=>by
 rcases r with c|⟨x,q⟩
 .exact h
 exact⟨h.1,⟨_,h.2.1,Z⟩,h.2.2⟩
theorem pu(g:I)(W:Ap)(b:I)(s:Cs)(c:AU)(h:Ch W b s)(h1:Jh s c)(rd:I->AS (J×J) (AM Unit×I))(hlen:O s.bs<=200000000)(hU:∀V,Cg b W V->U8 V)(h7:7<b)(hdp:s.depth<=100000)(hwd:(s.within:J)<=s.depth)(ih:¬(s.within:J)=s.depth->Pt g b {s with within:=s.within+1} W rd)(hgo:∀p d q,rd p=.ok (d,q)->p<q):Ar As 272 #[Ag #[A8 b]] W (Od (g+1) W b s (JU s.bs s.lim s.depth s.within rd (Hx s) c (s.pos+1))):=by
 obtain⟨R,hr⟩:=Dx (JU s.bs s.lim s.depth s.within rd (Hx s) c (s.pos+1));rw[hr];have HX0:=G (KR h);have kb:=HX0.cell;have cT:=IL HX0.src h1;have hpp:(((s.pos+1:I)):J)-1=s.pos:=E;have hw:(c.toNat=110/\D (L0 W b s 274 #[Ag #[A8 b],Ae ⟨#[117,108,108]⟩] R λ_ _ v d=>v=Af #[]/\d=.nil))\/(c.toNat=116/\D (L0 W b s 274 #[Ag #[A8 b],Ae ⟨#[114,117,101]⟩] R λ_ _ v d=>v=Af #[]/\d=.lit (.bool AP)))\/(c.toNat=102/\D (L0 W b s 274 #[Ag #[A8 b],Ae ⟨#[97,108,115,101]⟩] R λ_ _ v d=>v=Af #[]/\d=.lit (.bool AQ)))
   \/ (c.toNat=34/\D (L0 W b s 275 #[Ag #[A8 b]] R λ_ _ v d=>∃l:A1,v=Ae ⟨Aw l⟩/\d=.lit (.string l)))\/(c.toNat=91/\D (L0 W b s 276 #[Ag #[A8 b]] R λV W' v d=>∃a n c,v=T a n c/\Cv (g+1) W' (λj=>K (Av V)<=j/\j<K (Av W')) (Ai 221 v) d))\/(c.toNat=123/\D (L0 W b s 277 #[Ag #[A8 b]] R λV W' v d=>∃a n c,v=T a n c/\Cv (g+1) W' (λj=>K (Av V)<=j/\j<K (Av W')) (Ai 223 v) d))
   \/ (c.toNat=45/\D (L0 W b s 279 #[Ag #[A8 b],C Am c.toNat] R λ_ _ v d=>∃z,v=C Y z/\d=.lit (.int Y z) /\ -9223372036854775808<=z/\z<=9223372036854775807))\/((48<=(c.toNat:J)/\(c.toNat:J)<=57)/\D (L0 W b s 279 #[Ag #[A8 b],C Am c.toNat] R λ_ _ v d=>∃z,v=C Y z/\d=.lit (.int Y z) /\ -9223372036854775808<=z/\z<=9223372036854775807))
   \/ (¬(c.toNat=110\/c.toNat=116\/c.toNat=102\/c.toNat=34\/c.toNat=91\/c.toNat=123\/c.toNat=45\/(48<=c.toNat/\c.toNat<=57))/\R=.error (9,s.pos)):=by
  unfold JU at hr;have deep:∀f val,(∀V,Ch V b _->Ar _ f _ V λe W'=>CV 11 (s.next.pos-1) e/\Cg b V W')->D (L0 W b s f #[Ag #[A8 b]] (.error (11,(s.pos+1:I)-1)) val):=λf val cd V hV _=>(cd V hV).mono λe W' hh=>⟨hh.2,hh.1⟩
  have num:∀R',(c.toNat=45\/Eh c=AP)->(match Hx s c (s.pos+1)with|.error e=>.error e|.ok (z,q)=>.ok (.lit (.int Y z),q))=R'->D (L0 W b s _ _ R' λ_ _ v d=>∃z,v=.int _ z/\d=.lit (.int _ z) /\ -9223372036854775808<=z/\z<=9223372036854775807):=λR' hc hr=>Og (Hx s c _) _ (λV hV _=>QI (mV hV hc)) λ_ _ _ z q hz e=>⟨z,e,rfl,(VP hc hz).1⟩
  by_cases c1:c.toNat=110
  .rw[Cn c1]at hr;exact AF ⟨c1,Og (Dn s.bs s.lim _ (s.pos+1)) _ (λV hV _=>QI (Pk _ Ba hV)) λ_ _ _ _ _ _ e=>⟨e,Z⟩⟩
  rw[Ci c1]at hr;by_cases c2:c.toNat=116
  .rw[Cn c2]at hr;exact AG (AF ⟨c2,Og (Dn s.bs s.lim _ (s.pos+1)) _ (λV hV _=>QI (Pk _ Ba hV)) λ_ _ _ _ _ _ e=>⟨e,Z⟩⟩)
  rw[Ci c2]at hr;by_cases c3:c.toNat=102
  .rw[Cn c3]at hr;exact AG (AG (AF ⟨c3,Og (Dn s.bs s.lim _ (s.pos+1)) _ (λV hV _=>QI (Pk _ Ba hV)) λ_ _ _ _ _ _ e=>⟨e,Z⟩⟩))
  rw[Ci c3]at hr;by_cases c4:c.toNat=34
  .rw[Cn c4]at hr;exact AG (AG (AG (AF ⟨c4,Og (Dr s.bs s.lim (O s.bs+1-(s.pos+1)) (s.pos+1) [] 0) _ (λV hV hB=>QI (ZV hV (hU V hB) h7 hlen)) λ_ _ _ l _ _ e=>⟨l,e,Z⟩⟩)))
  rw[Ci c4]at hr;by_cases c5:c.toNat=91
  .rw[Cn c5]at hr;refine AG (AG (AG (AG (AF ⟨c5,?_⟩))));by_cases hd:(s.within:J)=s.depth
   .rw[Cn hd]at hr;subst hr;exact deep _ _ λV hV=>pg hV hd
   rw[Ci hd]at hr;exact Og (G3 s.bs s.lim _ 93 (s.pos+1) []) _ (λV hV hB=>pe g hV (λU p h1 h2=>ih hd U p h1 (hB.trans h2)) hgo hlen hd keh) λ_ _ _ _ _ _ ⟨⟨a,n,c,e⟩,hT⟩=>⟨a,n,c,e,hT⟩
  rw[Ci c5]at hr;by_cases c6:c.toNat=123
  .rw[Cn c6]at hr;refine AG (AG (AG (AG (AG (AF ⟨c6,?_⟩)))));by_cases hd:(s.within:J)=s.depth
   .rw[Cn hd]at hr;subst hr;exact deep _ _ λV hV=>ph hV hd
   rw[Ci hd]at hr;exact Og (G3 s.bs s.lim (Fk s.bs s.lim rd) _ (s.pos+1) _) _ (λV hV hB=>pf g hV (λU p h1 h2=>ih hd U p h1 (hB.trans h2)) hgo hlen (λX hX=>hU X (hB.trans hX)) h7 hd keh) λ_ _ _ _ _ _ ⟨⟨a,n,c,e⟩,hT⟩=>⟨a,n,c,e,hT⟩
  grind [Eh]
 clear hr ih hgo h1 hU hlen h;rcases hw with⟨hc,HC⟩|⟨hc,HC⟩|⟨hc,HC⟩|⟨hc,HC⟩|⟨hc,HC⟩|⟨hc,HC⟩|⟨hc,HC⟩|⟨hc,HC⟩|⟨hc,rfl⟩
 all_goals
  have e1:=Of (c:=c) 110;have e2:=Of (c:=c) 116;have e3:=Of (c:=c) 102;have e4:=Of (c:=c) 34;have e5:=Of (c:=c) 91;have e6:=Of (c:=c) 123;have e7:=Of (c:=c) 45;have hdc:=pj (c:=c);clear hc;go_enter func272,ntmps272
  go_wp2_with(first
   |(go_at_call 270;refine cT.mono ?_;rintro e w2 ⟨rfl,hS2,hB2⟩;have HX:=G (HX0.step hS2 hB2);have kb:=HX.cell)
   |(go_at_call 278;apply (Pi).mono;rintro e w3 ⟨rfl,rfl⟩;rw[hdc]))
 rotate_right
 .apply (FJ 9 HX.src).mono;rintro e w7 ⟨hF,rfl⟩;obtain rfl:=hF;exact⟨rfl,HX.but,by rw[show((s.next.pos:J)-1)=s.pos from hpp];rfl⟩
 all_goals
  refine(HC _ HX.src HX.but).mono ?_;rintro e w4 ⟨hB4,hF4⟩;rcases R with⟨en,pl⟩|⟨d,q⟩
  .obtain rfl:=hF4;exact⟨Z,HX.but.trans hB4,Z⟩
  obtain⟨⟨v,rfl,hv⟩,hS4⟩:=hF4
  first|(obtain⟨rfl,rfl⟩:=hv)|(obtain⟨l,rfl,rfl⟩:=hv)|(obtain⟨z,rfl,rfl,hz⟩:=hv)|(obtain⟨a4,n4,c4,rfl,hD⟩:=hv)
  go_wp2;go_ret
  first|exact⟨HX.but.trans hB4,⟨_,_,rfl,rfl⟩,hS4⟩|exact⟨HX.but.trans hB4,⟨_,_,rfl,rfl,hz⟩,hS4⟩|exact⟨HX.but.trans hB4,⟨_,_,rfl,hD.same (λj hj=>⟨Cy HX.but.size hj.1,hj.2⟩) (λ_ _=>rfl)⟩,hS4⟩
theorem aL(d:J)(h:Ch W b s)(g:∀V,Ch V b s->Ar As 270 #[A8 b] V λe c=>CV d s.pos e/\A0 V c):Ar As 272 #[Ag #[A8 b]] W λe c=>Cg b W c/\CV d s.pos e:=by
 have a:=G (KR h);have j:=a.cell;have f:=g _ a.src;go_enter func272,ntmps272
 go_wp2_with(first
  |(go_at_call 270;apply f.mono;rintro e k ⟨hF,i⟩;obtain rfl:=hF))
 exact⟨Z,a.but.trans (Cg.of_below i),Z⟩
end
section
open Go.RowKit Go.Lib
theorem pP(W:X)(bs:A1)(cs:AJ Aq)(n:I)(b:n=O bs)(c:n<=9)(a:bs.map CJ=cs):Ck (Az W (M (Aw cs) 5)) (K (U W)) (T (Aa (K (U W))) n n) bs/\A0 W (Az W (M (Aw cs) 5)):=by subst a;subst b;refine⟨⟨⟨Ba,AG ⟨_,_,_,Z,Co _,Cj _,Co _,Bc,Ba,by simp[ML]⟩⟩,Ba,_,_,_,Z⟩,Cl⟩
theorem QN(W:X){cs:AJ Aq}(n:I)(b:n=O cs)(a:runeCells r=cs):Ck (Az W (M (Aw cs) 5)) (K (U W)) (T (Aa (K (U W))) n n) (Ei r)/\A0 W (Az W (M (Aw cs) 5)):=by grind [encodeRuneZ,pP,Ei,Vy]
theorem aX(W:X){n:J}(h:0<=n)(i:n<=1114111)(j:¬(55296<=n/\n<=57343)):Ar As 211 #[C Y n] W λe g=>∃v,e=Ak v/\Ck g (K (U W)) v (Ei n)/\A0 W g:=by
 by_cases a:n<128
 .have f:runeCells n=[C Am n]:=kem;have d:=G (QN W 1 Z f);go_enter func211,ntmps211;go_wp2;go_ret;exact⟨_,Z,d.1,d.2⟩
 by_cases b:n<2048
 .have f:runeCells n=[C Am (192+n/64),C Am (128+n%64)]:=by grind [runeCells,encodeRuneZ_two]
  have d:=G (QN W 2 Z f);go_enter func211,ntmps211;go_wp2;go_ret;exact⟨_,Z,d.1,d.2⟩
 by_cases c:n<65536
 .have f:runeCells n=[C Am (224+n/4096),C Am (128+n/64%64),C Am (128+n%64)]:=by grind [runeCells,encodeRuneZ_three]
  have d:=G (QN W 3 Z f);go_enter func211,ntmps211;go_wp2;go_ret;exact⟨_,Z,d.1,d.2⟩
 have f:runeCells n=[C Am (240+n/262144),C Am (128+n/4096%64),C Am (128+n/64%64),C Am (128+n%64)]:=by grind [runeCells,encodeRuneZ_four]
 have d:=G (QN W 4 Z f);go_enter func211,ntmps211;go_wp2;go_ret;exact⟨_,Z,d.1,d.2⟩
end
section
open Go.RowKit
theorem Rf:Ck W (K (U W)) (T Ao 0 0) []:=by refine⟨?_,Co _,Ao,0,0,rfl⟩;exact Fa ..
end
section
open Go.RowKit Go.Lib
theorem eK(hF:∀j,F j->j<K (U W))(h:Cv k W F x d)(hl:O (Do k d)<=999999999):Ar As 82 #[C Y 2,x] W λe a=>∃b,e=Ak b/\Ck a (K (U W)) b (Do k d)/\A0 W a:=by
 have c:=eI k W (K (U W)) F x d hF h W _ [] CO (Rf) ken;obtain⟨t,y,rfl⟩:=h.iface;go_enter func82,ntmps82
 go_wp2_with(first
  |(go_at_call 114;refine c.mono ?_;rintro e q ⟨p,rfl,f,l⟩;obtain⟨g,i,m,o,n,rfl⟩:=f))
 go_ret;exact⟨_,Z,⟨g,i,_,_,_,Z⟩,l⟩
theorem u9(hF:∀j,F j->j<K (U W))(h:Cv k W F x d)(hl:O (I4 k d)<=999999999):Ar As 82 #[C Y 3,x] W λe a=>∃b,e=Ak b/\Ck a (K (U W)) b (I4 k d)/\A0 W a:=by
 have c:=eJ k W (K (U W)) F x d hF h W _ [] CO (Rf) ken;obtain⟨t,y,rfl⟩:=h.iface;go_enter func82,ntmps82
 go_wp2_with(first
  |(go_at_call 115;refine c.mono ?_;rintro e q ⟨p,rfl,f,l⟩;obtain⟨g,i,m,o,n,rfl⟩:=f))
 go_ret;exact⟨_,Z,⟨g,i,_,_,_,Z⟩,l⟩
end
section
open Go.RowKit
structure Rp(W:World)(A tb L tc:Nat)(tk:Nat->Nat->Nat):Prop where
 lt:A<W.heap.size
 tlt:tb<W.heap.size
 takes:W.cell? ⟨A,19,none⟩=some (.slice (Aa tb) L tc)
 at_:∀x r,x<L->r<16->W.cell? ⟨tb,x*16+r,none⟩=some (.int .u16 (tk x r))
theorem Rp.below{tk:I->I->I}(h:Rp W A tb L tc tk)(hb:A0 W W'):Rp W' A tb L tc tk :=
 ⟨CK h.lt hb.size,CK h.tlt hb.size,(hb.cell (p:=⟨A,_,Ao⟩) h.lt).trans h.takes,λx r b a=>(hb.cell (p:=⟨tb,_,Ao⟩) h.tlt).trans (h.at_ x r b a)⟩
def Ms(st tk x:AH):AH:=(x&&&st)|||((x&&&tk)<<<1)
def I8(st tk P:AH->AH)(k:AH):AH->AH:=λr=>if r<k then Ms (st r) (tk r) (P r)else 0
theorem vR{st tk x:I}(d:st<256)(e:tk<256):Ms st tk x<512:=by have b:x&&&st<2^8:=P4 _ E;have c:x&&&tk<2^8:=P4 _ E;have a:(x&&&tk)<<<1<2^9:=E;exact YT (n:=9) E a
theorem vS(st tk P:I->I):I8 st tk P 0=DT:=by grind [I8,DT]
theorem vT(st tk P:I->I)(k:I):(λi=>if i=k then Ms (st k) (tk k) (P k)else I8 st tk P k i)=I8 st tk P (k+1):=by grind [I8]
theorem vU{tk:I->I}(a:∀r,st r<256)(b:∀r,tk r<256)(P:I->I)(k r:I):I8 st tk P k r<512:=by grind [I8,vR]
structure Mt(W:World)(P X:Nat->Nat)(V:World):Prop where
 box:V.heap[W.heap.size]?=some (.cells (Cw P) 183)
 ret:V.heap[W.heap.size+1]?=some (.cells (Cw DT) 183)
 nx:V.heap[W.heap.size+2]?=some (.cells (Cw X) 183)
 below:A0 W V
theorem Mt.next{W V V':Ap}{P X:I->I}(h:Mt W P X V)(hb:A0 V V'):Mt W P X V' :=
 ⟨(hb.block _ (Cc h.box)).trans h.box,(hb.block _ (Cc h.ret)).trans h.ret,(hb.block _ (Cc h.nx)).trans h.nx,h.below.trans (hb.mono h.below.size)⟩
theorem vV(P:I->I):Mt W P DT (Az (Az (Az W (M (Cw P) 183)) (M (Cw DT) 183)) (M (Cw DT) 183)) :=
 ⟨((Cx _ _ _ B7).trans (Cx _ _ _ Ba)).trans (Cj _),(Cx _ _ _ Ba).trans (B2 (Cj (Az W (M (Cw P) 183)) (o:=(M (Cw DT) 183)))),B2 (Cj (Az (Az W (M (Cw P) 183)) (M (Cw DT) 183)) (o:=(M (Cw DT) 183))),((Cl).alloc Ba _).alloc B7 _⟩
theorem vW{ra:A4}{rc:I}{tk:I->I->I}(m:∀r,st r<256)(u:∀x r,tk x r<256)(hn:n<=16)(h:Nv W A ra rc n st)(B:Rp W A tb L tc tk){P:I->I}(Q:∀r,P r<512){x:I}(hx:x<L):Ar As 104 #[A8 A,.agg (Cw P),C Y x] W λe W'=>Xd n st (I8 st (tk x) P n) e/\A0 W W':=by
 have o:=G h;have t:=G B;have q:D (Mt W P DT (Az (Az (Az W (M (Cw P) 183)) (M #[C .u16 0,C .u16 0,C .u16 0,C .u16 0,C .u16 0,C .u16 0,C .u16 0,C .u16 0,C .u16 0,C .u16 0,C .u16 0,C .u16 0,C .u16 0,C .u16 0,C .u16 0,C .u16 0] 183)) (M #[C .u16 0,C .u16 0,C .u16 0,C .u16 0,C .u16 0,C .u16 0,C .u16 0,C .u16 0,C .u16 0,C .u16 0,C .u16 0,C .u16 0,C .u16 0,C .u16 0,C .u16 0,C .u16 0] 183))):=vV P;have c0:=h.rules;have al:=h.lt;have am:A<K (U W)+1:=E;have an:A<K (U W)+1+1:=E;go_enter func104,ntmps104;go_wp2
 go_loopg[14] n (λg ac V=>∃k:I,ac=C Y k/\D (k+g=n)/\D (Mt W P (I8 st (tk x) P k) V))
 case atStart=>grind [vS]
 case round =>
  obtain⟨k,rfl,l,d⟩:=hrel;obtain _|g:=gk
  .have hl:¬(k:J)<(n:J):=AY (AE l);have aa:k=n:=AY (AE l);subst aa;have y:=λV i=>gm (o.below (W':=V) i) (vU m (u x) P k) m hn
   go_wp2_with(first
    |(go_at_call 142;refine(y _ d.below).mono ?_;rintro e w2 ⟨⟨f,rfl,hY⟩,F⟩;have j:=G (d.next F);have w:=G hY)
    |(refine CT Z 183 (.tmp 7) Z (K (U W)+1+1) Z _ _ _ _ d.nx underlying183 Z (FO _) ?_)
    |(refine Db Z 183 (.tmp 6) (.tmp 47) Z (K (U W)+1) (Cw f) Z Z 183 (Cw DT) j.ret (FO f) (Ro) (Rn f) ?_))
   refine CL (KE results104 _ _ (K (U W)+1) 183 (Cw f) (0,0) _ Z (CM _ _ _ _ _ _ j.ret) underlying183 Z (FO f)) Z ⟨⟨f,Z,w⟩,Dj j.below E⟩
  have ak:k<n:=AY (AE l);have hl:(k:J)<(n:J):=E;have aj:(k:J)<16:=E;have hxL:(x:J)<(L:J):=E;have ae:=Q k;have ap:=m k;have aq:=u x k;have ha:=Tx (P k) (st k) E E;have ag:=Tx (P k) (tk x k) E E;have af:P k&&&st k<256:=P4 (n:=8) _ E;have z:P k&&&tk x k<256:=P4 (n:=8) _ E;have ao:=ge z;have ab:bits .or .u16 ((P k&&&st k:I):J) (((P k&&&tk x k)<<<1:I):J)=((Ms (st k) (tk x k) (P k):I):J):=X8 E E;have ah:A6 wr (K (U W)+1+1) k (C .u16 (I8 st (tk x) P k k)):=by have h:=Cb d.nx k;grind [L6]
  have ai:=Dq wr (K (U W)+1+1) k _ _ d.nx;have s:D (Mt W P (I8 st (tk x) P (k+1)) (wr.drew.setCell ⟨K (U W)+1+1,k,Ao⟩ (C .u16 ((Ms (st k) (tk x k) (P k):I):J)))):=by refine⟨(G9 wr.drew _ _ _ B7).trans d.box,(G9 wr.drew _ _ _ Ba).trans d.ret,?_,d.below.drew.setCell B7 _⟩;have h:=DQ wr.drew (K (U W)+1+1) k _ _ (C .u16 ((Ms (st k) (tk x k) (P k):I):J)) d.nx;grind [Ty,vT]
  have p:∀V,Mt W P (I8 st (tk x) P k) V\/Mt W P (I8 st (tk x) P (k+1)) V->A6 V (K (U W)) k (C .u16 (P k))/\A6 V A (3+k) (C .u16 (st k))/\A6 V A 19 (T (Aa tb) L tc)/\A6 V tb (x*16+k) (C .u16 (tk x k)):=by
   intro V hV;have i:A7 V (K (U W)) (Cw P) 183/\A0 W V:=by rcases hV with h|h<;>exact⟨h.box,h.below⟩
   exact⟨by have h:=Cb i.1 k;grind [L6],(o.below i.2).stays k E,(t.below i.2).takes,(t.below i.2).at_ x k hx E⟩
  have q:D (_):=p wr (AF d);have v:D (_):=p _ (AG s);go_wp2;have a:(λb:X=>A6 b (K (U W)) k (C .u16 (P k))/\A6 b A (3+k) (C .u16 (st k))/\A6 b A 19 (T (Aa tb) L tc)/\A6 b tb (x*16+k) (C .u16 (tk x k))) {wr with drawn:=wr.drawn+1}:=AE q;have R:=AE v;refine Ef (S:=λb=>A6 b (K (U W)) k (C .u16 (P k))/\A6 b A (3+k) (C .u16 (st k))/\A6 b A 19 (T (Aa tb) L tc)/\A6 b tb (x*16+k) (C .u16 (tk x k))) B6 ?_;refine Ca 0 17 (C Y k) a ?_;refine Ca 1 18 (C Y k) a ?_;refine Cf 2 19 (A9 (K (U W)) k) Z (λb c=>?y2) a ?_
  case y2=>go_simp
  refine Cf 3 20 (C .u16 (P k)) Z (λb c=>?y3) a ?_
  case y3=>(have z1:=c.1;go_simp)
  refine Ca 4 21 (A8 A) a ?_;refine Ca 5 22 (C Y k) a ?_;refine Ca 6 23 (A8 A) a ?_;refine Ca 7 24 (A9 A 3) a ?_;refine Cf 8 25 (A9 A (3+k)) Z (λb c=>?y8) a ?_
  case y8=>go_simp
  refine Cf 9 26 (C .u16 (st k)) Z (λb c=>?y9) a ?_
  case y9=>(go_simp)
  refine Cf 10 27 (C .u16 ((P k&&&st k:I):J)) Z (λb c=>?y10) a ?_
  case y10=>go_simp
  refine Ca 11 28 (C Y k) a ?_;refine Cf 12 29 (A9 (K (U W)) k) Z (λb c=>?y12) a ?_
  case y12=>go_simp
  refine Cf 13 30 (C .u16 (P k)) Z (λb c=>?y13) a ?_
  case y13=>(have z1:=c.1;go_simp)
  refine Ca 14 31 (A8 A) a ?_;refine Ca 15 32 (A8 A) a ?_;refine Ca 16 33 (A9 A 19) a ?_;refine Cf 17 34 (T (Aa tb) L tc) Z (λb c=>?y17) a ?_
  case y17=>(go_simp)
  refine Ca 18 35 (C Y x) a ?_;refine Ca 19 36 (C Y k) a ?_;refine Cf 20 37 (A9 tb (x*16)) Z (λb c=>?y20) a ?_
  case y20=>go_simp
  refine Cf 21 38 (A9 tb (x*16+k)) Z (λb c=>?y21) a ?_
  case y21=>go_simp
  refine Cf 22 39 (C .u16 (tk x k)) Z (λb c=>?y22) a ?_
  case y22=>(go_simp)
  refine Cf 23 40 (C .u16 ((P k&&&tk x k:I):J)) Z (λb c=>?y23) a ?_
  case y23=>go_simp
  refine Cf 24 41 (C .u16 (((P k&&&tk x k)<<<1:I):J)) Z (λb c=>?y24) a ?_
  case y24=>go_simp
  refine Cf 25 42 (C .u16 ((Ms (st k) (tk x k) (P k):I):J)) Z (λb c=>?y25) a ?_
  case y25=>(go_simp;exact ab)
  refine Cf 26 43 (A9 (K (U W)+1+1) k) Z (λb c=>?y26) a ?_
  case y26=>go_simp
  refine CC 27 (λad N=>?_);go_simp;refine N.out _ _ R (λ_=>?_);refine CG ?_;go_simp;go_wp2;go_roundg g
  case measure=>omega
  case rel=>exact⟨k+1,Bb,B9,s⟩
def E5(W:Ap)(kt:AN)(m n:AH)(f:Lit->Option AH):Prop :=
 ∃D:A2,W.ownsMap As kt (plainElem As 3) m n D/\∀l,Maps.has D l=(f l).isSome/\∀v:AH,f l=An v->D.atKey l (.lit (.int Al 0))=.lit (.int Al v)
theorem E5.kept{f:Lit->Option I}{row:Option I}(h:E5 W kt m n f)(d:W.grownBy W' row)(e:H m≠row):E5 W' kt m n f:=BS
theorem E5.lt{f:Lit->Option I}(h:E5 W kt m n f):m<K (U W):=by obtain⟨b,a,_⟩:=h;exact a.lt
theorem Xe(W:X)(a:AN):E5 (Az W (.map #[] 0)) a (K (U W)) 0 (λ_=>Ao) :=
 ⟨_,Yu W As a _,λl=>⟨kfa,λv h=>Bo⟩⟩
theorem gp:(zeroValue 3).run As W=.ok (C Y 0) W:=B6
theorem gq{f:Lit->Option I}{D:A2}(_h1:W.ownsMap As kt (plainElem As 3) m n D)(a:∀l,Maps.has D l=(f l).isSome/\∀v:I,f l=H v->D.atKey l (.lit (.int Y 0))=.lit (.int Y v)):D.atKey kl (.lit (.int Y 0))=.lit (.int Y (((f kl).getD 0:I):J)):=by cases b:f kl<;>grind [Maps.atKey_of_not_has]
theorem Rq{f:Lit->Option I}(h:E5 W kt m n f)(K:Maps.Keyed As kt)(g:prog.underlying t=H (.map kt 3))(e:keyOf As kt key=H kl):(Instr.lookup t (.map (H m)) key AQ).run As W=.ok (C Y (((f kl).getD 0:I):J)) W:=by obtain⟨i,a,b⟩:=h;obtain⟨c,j,d,_⟩:=a.lookup_int K g underlying3 (gp) e;rw[gq a b]at d;grind
theorem TA{f:Lit->Option I}(h:E5 W kt m n f)(K:Maps.Keyed As kt)(d:prog.underlying t=H (.map kt 3))(c:keyOf As kt key=H kl):(Instr.lookup t (.map (H m)) key AP).run As W=.ok (Af #[C Y (((f kl).getD 0:I):J),Ah (f kl).isSome]) W:=by obtain⟨g,a,b⟩:=h;obtain⟨v,j,i,e⟩:=a.look_ok K d (gp) (US underlying3 B8) c;rw[gq a b]at e;grind [plainElem_int_inv,underlying3]
theorem gu{f:Lit->Option I}(h:E5 W kt m n f)(K:Maps.Keyed As kt)(p:prog.underlying t=H (.map kt 3))(y:n<1000000000)(g:keyOf As kt key=H kl)(v:I)(z:v<1000000000):∃a,(Instr.mapUpdate t (.map (H m)) key (C Y v)).run As W=.ok () a/\(∀b:Lit->Option I,b kl=H v->(∀l,l≠kl->b l=f l)->E5 a kt m (n+1) b)/\W.grownBy a (H m):=by
 obtain⟨w,d,x⟩:=h;have s:(Lit.int Y (v:J)).wf=AP:=by have c:IntKind.i64.min = -9223372036854775808:=B6;have i:IntKind.i64.max=9223372036854775807:=B6;grind [Lit.wf]
 obtain⟨a,o,k,j⟩:=d.store K p Bc g (US underlying3 s);refine⟨a,o,λb c i=>⟨_,k,λl=>?_⟩,j.grown⟩;by_cases e:l=kl
 .subst e;refine⟨(UF d.isMap (K.key g) _).trans keW,λu q=>?_⟩;have r:=Fg (c.symm.trans q);rw[<-r];exact YL d.isMap (K.key g) _ _
 grind [Maps.has_put_other,Maps.atKey_put_other]
theorem Xf:Maps.Keyed As 183:=YU Xa
theorem Xg:Maps.Keyed As 199:=YU fX
structure D5 where
 ra:A4
 rc:Nat
 rs:List (List (Nat×A1)×Int×Int)
 dflt:Int
 lm:Nat
 ln:Nat
 lf:Lit->Option Nat
 st:Nat->Nat
 tb:Nat
 L:Nat
 tc:Nat
 tk:Nat->Nat->Nat
 nb:Nat
 mb:Nat
def Rr(q:D5)(sv:Aq):A3:=#[Ac q.ra (At q.rs) q.rc,Ab Al q.dflt,.map (An q.lm),Ab .u16 (q.st 0),Ab .u16 (q.st 1),Ab .u16 (q.st 2),Ab .u16 (q.st 3),Ab .u16 (q.st 4),Ab .u16 (q.st 5),Ab .u16 (q.st 6),Ab .u16 (q.st 7),Ab .u16 (q.st 8),Ab .u16 (q.st 9),Ab .u16 (q.st 10),Ab .u16 (q.st 11),Ab .u16 (q.st 12),Ab .u16 (q.st 13),Ab .u16 (q.st 14),Ab .u16 (q.st 15),Ac (Aa q.tb) q.L q.tc,sv,.map (An q.nb),.map (An q.mb)]
def Nw(x:(AH->AH)×AI×AI):AJ Aq:=(Cw x.1).toList++[Ab Al x.2.1,Ab Al x.2.2]
structure DB(W0:World)(A:Nat)(q:D5)(sts:List ((Nat->Nat)×Int×Int))(sv:Value)(nf:Lit->Option Nat)(mn:Nat)(mf:Lit->Option Nat)(W:World):Prop where
 row:W.heap[A]?=some (.cells (Rr q sv) 187)
 rules:J6 W0 q.ra q.rs
 few:q.rs.length<=16/\∀i (h:i<q.rs.length),q.rs[i].1.length<=8
 below:A0 W0 W
 letters:E5 W 9 q.lm q.ln q.lf
 takes:∃cur,W.heap[q.tb]?=some (.cells cur 183)/\∀(x r:Nat),x<q.L->r<16->cur[x*16+r]?=some (.int .u16 (q.tk x r))
 states:W.ownsRow W0.heap.size 203 18 sv sts.length (sts.flatMap Nw)
 numbers:E5 W 183 q.nb sts.length nf
 moves:E5 W 199 q.mb mn mf
 high:W0.heap.size<=A/\W0.heap.size<=q.lm/\W0.heap.size<=q.tb/\W0.heap.size<=q.nb/\W0.heap.size<=q.mb
 apart:A≠q.lm/\A≠q.tb/\A≠q.nb/\A≠q.mb/\q.lm≠q.tb/\q.lm≠q.nb/\q.lm≠q.mb/\q.tb≠q.nb/\q.tb≠q.mb/\q.nb≠q.mb
 own:∀g,sv.ownBlock=some g->g≠A/\g≠q.lm/\g≠q.tb/\g≠q.nb/\g≠q.mb
 bits:(∀r,q.st r<256)/\∀x r,q.tk x r<256
 here:∀(i:Nat) (x:(Nat->Nat)×Int×Int),sts[i]?=some x->x.2=Eu q.dflt q.rs x.1 0/\∀r,x.1 r<512
 num:∀(i:Nat) (x:(Nat->Nat)×Int×Int),sts[i]?=some x->∀l,keyOf prog 183 (.agg (Cw x.1))=some l->nf l=some i
 num':∀(l:Lit) (i:Nat),nf l=some i->∃x,sts[i]?=some x/\keyOf prog 183 (.agg (Cw x.1))=some l
theorem LG{P:Program}{ev:Operand->Aq}{W:X}{o:Oper}{ty:AN}(x:Operand)(c:o.op=.load ty x){g:I}(hx:ev x=A8 g){t:AN}{cs:A3}{fr:I×I}{d:TypeDesc}(b:W.heap[g]?=H (M cs t fr))(e:P.underlying ty=H d)(a:(match d with|.struct _|.array _ _=>AP|_=>AQ)=AP)(hi:(P.info? ty).map (·.size)=H cs.size):(execOp ev o).run P W=.ok (.value (.agg cs)) W:=Bj
theorem vX{W0:X}{q:D5}{sts:AJ ((I->I)×J×J)}{sv:Aq}{nf:Lit->Option I}{mn:I}{mf:Lit->Option I}(h:DB W0 A q sts sv nf mn mf W){Y:I->I}{l:Lit}(hl:keyOf As 183 (.agg (Cw Y))=H l){i:I}(hi:nf l=H i):Ar As 97 #[A8 A,.agg (Cw Y)] W λe g=>e=Ak (C Al i)/\A0 W g:=by
 have d:D ((Az W (M (Cw Y) 183)).heap[K (U W)]?=H (M (Cw Y) 183)):=Cj _;have k:=Cc h.row;have j:A6 W A 21 (.map (H q.nb)):=Cb h.row 21;have f:=G (h.numbers.kept (KB W (M (Cw Y) 183) Ao) Ba);go_enter func97,ntmps97;go_wp2;have a:(λb:X=>A6 b A 21 (.map (H q.nb))/\A7 b (K (U W)) (Cw Y) 183/\E5 b 183 q.nb (O sts) nf) {Az W (M (Cw Y) 183)with drawn:=(Az W (M (Cw Y) 183)).drawn+1}:=⟨((((Cq (K (U W)) W).alloc (Co _) (M (Cw Y) 183)).cell (p:=⟨A,21,Ao⟩) k).trans j :),d,f⟩
 refine Ef (S:=λb=>A6 b A 21 (.map (H q.nb))/\A7 b (K (U W)) (Cw Y) 183/\E5 b 183 q.nb (O sts) nf) B6 ?_;refine Ca 0 10 (A8 A) a ?_;refine Ca 1 11 (A8 A) a ?_;refine Ca 2 12 (A9 A 21) a ?_;refine Cf 3 13 (.map (H q.nb)) Z (λb c=>?y3) a ?_
 case y3=>(go_simp)
 refine Cf 4 14 (.agg (Cw Y)) Z (λb c=>?y4) a ?_
 case y4=>exact LG (.tmp 3) rfl rfl c.2.1 underlying183 rfl (FO Y)
 refine Cf 5 15 (Af #[C Al i,Ah AP]) Z (λb c=>?y5) a ?_
 case y5=>(have m:=TA c.2.2 Xf underlying179 hl;rw[hi]at m;go_simp)
 refine Ca 6 9 (Af #[C Al i,Ah AP]) a ?_;refine Ca 7 16 (C Al i) a ?_;refine Ca 8 17 (Ah AP) a ?_;refine Ca 9 5 (C Al i) a ?_;refine Ca 10 6 (Ah AP) a ?_;refine CG ?_;go_simp;go_wp2;go_ret;exact⟨Z,(Cl).drew⟩
def Jz(n:AH):AJ A1->AH->AI
 |[],_=>-1
 |p::q,i=>if De n p=AP/\i<16 then Jz n q (i+1)else i
def DU(n:AH)(l:A1):AI:=if 2000<At l then 0 else if At l=0 then -1 else Jz n (D0 10 l) 0
theorem Tryz.infoRule:(prog.info? 193).map (λi=>(i.zero,i.size,i.bytes))=H (H (.agg DO),3,40):=B6
theorem gy(h:W.ownsRow base e size v n xs)(m:∀i,i<K (U W)->W'.heap[i]?=W.heap[i]?):W'.ownsRow base e size v n xs:=by
 obtain⟨l,f⟩:=h;refine⟨l,?_⟩;rcases f with f|⟨g,j,k,a,b,c,d⟩
 .exact Pa f
 exact KK ⟨g,j,k,a,b,(m g (Cc c)).trans c,d⟩
structure TE(w2 wr:World)(N:Nat)(A:A3)(W:World):Prop where
 below:A0 w2 W
 same:∀i,i<wr.heap.size->W.heap[i]?=wr.heap[i]?
 row:W.heap[N]?=some (.cells A 193)
 lo:wr.heap.size<=N
theorem wn{A:A3}(h:A0 w2 wr)(a:Below (K (U wr)) wr.drew w'):TE w2 wr (K (U w')) A (Az w' (M A 193)):=by have b:=h.size;have c:K (U wr)<=K (U w'):=a.size;refine⟨(h.drew.trans (a.mono b)).alloc E _,λi d=>?_,Cj _,c⟩;rw[Cx _ _ _ E];exact a.block _ d
theorem wo{A:A3}(h:A0 w2 wr)(a:Below (K (U wr)+1) (Az wr (M DO 193)).drew w'):TE w2 wr (K (U wr)) A (AD w' (K (U wr)) A):=by have b:=h.size;refine⟨Dj (((h.alloc b _).drew).trans (a.mono E)) b,λi c=>?_,CM _ _ DO _ _ _ ((a.block _ E).trans (Cj _)),Co _⟩;rw[Dg _ _ _ _ E,a.block _ E];exact Cx _ _ _ c
theorem wt{P:Program}{ev:Operand->Aq}{W:X}{o:Oper}{ty:AN}(x:Operand)(c:o.op=.load ty x){g:I}(hx:ev x=A8 g){t:AN}{cs:A3}{fr:I×I}{d:TypeDesc}(b:W.heap[g]?=H (M cs t fr))(e:P.underlying ty=H d)(a:(match d with|.struct _|.array _ _=>AP|_=>AQ)=AP)(hi:(P.info? ty).map (·.size)=H cs.size):(execOp ev o).run P W=.ok (.value (.agg cs)) W:=Bj
end
section
open Go.RowKit Go.Shelf
theorem wu(s:AT)(w:X)(d:s.size<=1000000):Ar As 200 #[.string s] w λe c=>e=Ak (.string s)/\A0 w c:=by
 have a:=Tryz.stringslite_Clone s w E;go_enter func200,ntmps200
 go_wp2_with(first
  |(go_at_call 216;refine a.mono ?_;rintro e f ⟨rfl,b⟩))
 go_ret;exact⟨Z,b⟩
section
attribute[local go_sem] Oper.semAt_some
theorem gD(s c:AT):Ar As 138 #[.string s,.string c] w λe a =>
   e=Ak (.func (.func 195) #[] #[A8 (K (U w)+1),A8 (K (U w)),A8 (K (U w)+1+1)]) /\
   a=Az (Az (Az w (M #[.string s] 9)) (M #[.string c] 9)) (M #[C Y 0] 3):=by
 go_enter func138,ntmps138;go_wp2;go_ret;exact⟨Z,Z⟩
abbrev DP:={s:AT // s.size<=2000}
def CF(x:DP):A1:=x.1.data.toList
structure L7(k:Nat)(c:UInt8)(W:World)(r:ByteArray):Prop where
 rest:W.heap[k]?=some (.cells #[.string r] 9)
 sep:W.heap[k+1]?=some (.cells #[.string ⟨#[c]⟩] 9)
 save:W.heap[k+1+1]?=some (.cells #[.int .i64 0] 3)
theorem L7.keep{r:AT}(h:L7 k c W r)(a:GG k (k+3) W W'):L7 k c W' r :=
 ⟨(a.same _ E E).trans h.rest,(a.same _ E E).trans h.sep,(a.same _ E E).trans h.save⟩
theorem L7.store{r:AT}(h:L7 k c W r)(r':AT):L7 k c (AB W ⟨k,0,Ao⟩ (.string r')) r' :=
 ⟨by rw[DQ W _ _ _ _ _ h.rest];rfl,(CY W _ _ _ Ba).trans h.sep,(CY W _ _ _ B7).trans h.save⟩
theorem wy(o:I):W.grownBy (AB W ⟨k,o,Ao⟩ v) (H k) :=
 ⟨rfl,rfl,rfl,Bd,λi _ a=>CY W _ _ _ B9⟩
theorem wA(s:AT)(o:I):(s.extract 0 o).data.toList=s.data.toList.take o:=Br
theorem wB(s:AT)(o:I):(s.extract o s.size).data.toList=s.data.toList.drop o:=by exact YP s o
theorem wC(s:AT)(o:I)(h:o<=s.size):(s.extract 0 o).size=o:=Br
theorem gE(s:AT)(o:I):(s.extract o s.size).size=s.size-o:=Br
theorem gG(n:Nat){k:Nat}{c:UInt8}{s:DP}{w:World}(d:L7 k c w s.1):gA Fence.wide n prog 195 #[A8 (k+1),A8 k,A8 (k+1+1)]
   (λx:DP=>#[.string x.1]) k (k+3) k (λxs=>xs.map CF=D0 c (CF s)) (λpre=>∃r,D0 c (CF s)=pre.map CF++r) w:=by
 intro aq R Jx W j hJ ah hY y;have al:=Cc d.save;have a:Hid (L7 k c W s.1):=⟨(j.block _ E).trans d.rest,(j.block _ E).trans d.sep,(j.block _ E).trans d.save⟩
 have P:=G hJ;have t:=G hY;have L:=G y;have ai:=Cb a.out.sep 0;refine callsIn_of_wp func195 Z trivial ?_ Z;simp only[ntmps195,KC,FU,Je,Nat.reduceAdd,Nat.reduceSub,NQ,NR,NU,NS,KG,Lf]
 gi_wp2
 gi_loopg[7,8] 2001 (λg x ar wr=>∃(pre:List DP) (r:DP),r.1.size<g/\Hid (D0 c (CF s)=pre.map CF++D0 c (CF r))/\Hid (L7 k c wr r.1)/\Hid (R pre wr))
 case atStart=>exact⟨[],s,AY s.2,rfl,a,L⟩
 case round =>
  obtain⟨pre,r,hg,HE,a,q⟩:=hrel;have aa:=Cb a.out.rest 0;have ab:=Cb a.out.sep 0;have aj:=Cb a.out.save 0;rcases Int.lt_or_le (Lib.indexByte (CF r) c) 0 with am|af
  .have ac:Lib.indexByte (CF r) c = -1:=AY (Lib.indexByte_ge (CF r) c);have N:Hid (D0 c (CF s)=pre.map CF++[CF r]):=by grind [vY]
   have ad:Lib.indexByte r.1.data.toList c = -1:=ac;obtain⟨l,ag,S,V,F,i⟩:=t.out pre r wr q.out
   gi_wp2_with fail
   refine⟨trivial,(λh=>Bo),?_⟩;refine(K7.2 (Tryz.strings_Index_one r.1 c _)).mono ?_;rintro e w2 ⟨rfl,rfl⟩
   gi_wp2
   refine⟨(λh=>Bo),i.mono ?_⟩;rintro e u (⟨rfl,v,z⟩|⟨rfl,f⟩)
   .gi_wp2
    go_end0;grind [Hid]
   gi_wp2
   go_end0;exact⟨⟨_,Z⟩,.inr ⟨pre++[r],⟨[],by rw[N.out];simp⟩,f⟩⟩
  obtain⟨o,A⟩:=OX af;obtain⟨ae,ao⟩:=vZ A;have ad:Lib.indexByte r.1.data.toList c=o:=A;have an:o<r.1.size:=by simpa[CF]using ae
  have HM:Hid (D0 c (CF s)=pre.map CF++((CF r).take o::D0 c ((CF r).drop (o+1)))):=B9;have m:(r.1.extract 0 o).size<=2000:=by grind [wC]
  have B:(r.1.extract (o+1) r.1.size).size<=2000:=by rw[gE];omega
  have Q:Hid (D0 c (CF s)=(pre++[(⟨r.1.extract 0 o,m⟩:DP)]).map CF++D0 c (CF (⟨r.1.extract (o+1) r.1.size,B⟩:DP))):=by grind [CF,wA,wB]
  have ap:(r.1.extract (o+1) r.1.size).size<r.1.size:=by rw[gE];omega
  obtain⟨l,ag,S,V,F,i⟩:=t.out pre ⟨r.1.extract 0 o,m⟩ wr q.out;dsimp only at F
  gi_wp2_with fail
  refine⟨trivial,(λh=>Bo),?_⟩;refine(K7.2 (Tryz.strings_Index_one r.1 c _)).mono ?_;rintro e w2 ⟨rfl,rfl⟩
  gi_wp2
  refine⟨(λh=>Bo),i.mono ?_⟩;rintro e u (⟨rfl,v,z⟩|⟨rfl,f⟩)
  .have b:=G (a.out.keep z);have aa:=Cb b.out.rest 0;have ab:=Cb b.out.sep 0;have ak:=Dq u k 0 _ _ b.out.rest;have p:=G v
   gi_wp2
   gi_roundg ((r.1.extract (o+1) r.1.size).size+1)
   case measure=>omega
   case rel=>exact⟨pre++[⟨r.1.extract 0 o,m⟩],⟨r.1.extract (o+1) r.1.size,B⟩,UJ _,Q,b.out.store _,P.out _ _ _ p.out (wy 0)⟩
  have p:=G f
  gi_wp2
  refine CL (results_none Z _ _ _) Z ?_;grind [Hid]
end
end
section
open Go.RowKit
def gL: String := "internal" ++ (String.singleton (Char.ofNat 47) ++ "strconv.uint64pow10")
def Kr(B:AH)(w:Ap):Prop:=Lib.TabBelow As B w gL .u64 Lib.pow10Tab
theorem wV(bs:A1):Lib.byteCells bs=bs.map CJ:=by unfold Lib.byteCells CJ;rfl
theorem wW(i : -9223372036854775808<=z)(j:z<=9223372036854775807)(hl:O bs<=999999999)(h:Ck W base v bs)(l:Kr base W):Ar As 151 #[v,C Y z,C Y 10] W λe b=>∃a,e=Ak a/\Ck b base a (bs++Lib.itoa z)/\Below base W b:=by
 obtain⟨k,f,o⟩:=h;refine(Any.strconv_AppendInt_10 Tryz.laysM176 base (O bs) z i j v (bs.map CJ) W k f E (Eq.mp (congrArg (λs=>Lib.TabBelow As base W s .u64 Lib.pow10Tab) B6) l)).mono ?_;rintro e w ⟨a,rfl,d,c,_⟩;refine⟨a,Z,⟨?_,?_,?_⟩,c⟩
 .rw[Dc,JP,<-wV (Lib.itoa z)];exact d
 .have:=c.size;omega
 rcases d.2 with⟨e,_⟩|⟨g,m,n,e,_⟩<;>grind
end
section
open Go.RowKit Go.Deep
theorem yn{m:I->I->AK}(h:∀i j,i<n->j<n->m i j=m' i j):Ij n m = !MA n m':=by
 cases k:Ij n m
 .symm;rw[Bool.not_eq_false'];refine iC (λa b e c=>?_);cases d:IQ n m' a b
  .rfl
  exfalso;unfold IQ at d;simp only[F3,UE,MN]at d;obtain⟨_,⟨p,f⟩,g⟩:=d;rw[<-h a b e c]at f;rw[<-h b a c e]at g;rcases Nat.lt_or_ge b a with o|l
  .grind [Vd,KN]
  have:=Vd (m:=m) c (show a<b by omega) (by grind [KN]);grind
 grind [Ij,KN,iB,IQ]
theorem yo(m:I->I->AK)(a b k:I):EO m a b k=EO m b a k:=keB
theorem yp(n:I)(m:I->I->AK)(a b:I):Fh n m a b=Fh n m b a:=by grind [Fh,Gc,yo]
theorem yq{m:I->I->AK}{a:I}(b:a<n)(c:m a a=AP):Fh n m a a=AP:=by grind [Vb,V8,EO]
theorem yr{m:I->I->AK}(h:∀i j,i<n->j<n->m i j=m' i j)(f:∀i,i<n->m' i i=AP):Jf n m=MB n m':=by
 have e:∀a b,a<n->b<n->JQ n m a b=JD n m' a b:=λa b c d=>by grind [JQ,JD,Zd]
 grind [JD,yp,yq,Jf,List.all_eq_false,Xz,iD]
end
section
open Go.RowKit
def FQ(f:AI):AK:=f==1||f==2||f==3
theorem XC{f:J}:Ar As 48 #[C Y f] w λe a=>e=Ak (Ah (FQ f))/\a=w:=by
 go_enter func48,ntmps48;go_wp2
 all_goals go_ret
 all_goals exact⟨by simp[FQ, *],rfl⟩
theorem iG(f:J):Ar As 45 #[C Y f] w λe a=>e=Ak (Ah (FQ f))/\a=w:=by
 go_enter func45,ntmps45;go_wp2
 all_goals go_ret
 all_goals exact⟨by simp[FQ, *],rfl⟩
def FR(i o d b:AI):AK:=FQ i&&FQ o&&AR (1<=d)&&AR (d<=16)&&AR (1<=b)&&AR (b<=4096)
theorem yA(i o d b:J)(w:X):Ar As 40 #[C Y i,C Y o,C Y d,C Y b] w λe f=>e=Ak (Ah (FR i o d b))/\f=w:=by
 cases g:FQ i
 .have a:D (FR i o d b=AQ):=by grind [D,FR]
  go_enter func40,ntmps40
  go_wp2_with(first
   |(go_at_call 48;skip;refine(XC).mono ?_;rintro e c ⟨rfl,rfl⟩))
  go_ret;exact⟨by rw[AE a];rfl,rfl⟩
 cases h:FQ o
 .have a:D (FR i o d b=AQ):=by grind [D,FR]
  go_enter func40,ntmps40
  go_wp2_with(first
   |(go_at_call 48;refine(XC).mono ?_;rintro e c ⟨rfl,rfl⟩))
  go_ret;exact⟨by rw[AE a];rfl,rfl⟩
 have a:D (FR i o d b=(AR (1<=d)&&AR (d<=16)&&AR (1<=b)&&AR (b<=4096))):=by grind [D,FR]
 go_enter func40,ntmps40
 go_wp2_with(first
  |(go_at_call 48;refine(XC).mono ?_;rintro e c ⟨rfl,rfl⟩))
 all_goals go_ret
 all_goals refine⟨?_,rfl⟩
 all_goals rw[AE a]
 all_goals simp[*]
 all_goals(intros;omega)
structure JH(w:World)(a:A4)(ps:List (A1×Bool)):Prop where
 at_:∀i (h:i<ps.length),∃b off,a=some ⟨b,off,none⟩/\b<w.heap.size/\w.cell? ⟨b,off+i*2,none⟩=some (.string ⟨ps[i].1.toArray⟩)/\w.cell? ⟨b,off+i*2+1,none⟩=some (.bool ps[i].2)
theorem JH.below{ps:AJ (A1×AK)}(h:JH w a ps)(hb:A0 w w'):JH w' a ps :=
 ⟨λi g=>by obtain⟨b,off,d,c,e,f⟩:=h.at_ i g;exact⟨b,off,d,CK c hb.size,(hb.cell (p:=⟨b,_,Ao⟩) c).trans e,(hb.cell (p:=⟨b,_,Ao⟩) c).trans f⟩⟩
end
end Go.Proofs.YtihfjkjbfaneeaaGreatDoor
