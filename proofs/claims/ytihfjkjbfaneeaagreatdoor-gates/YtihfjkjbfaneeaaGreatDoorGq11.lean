import Derived.Test.YtihfjkjbfaneeaaGreatDoorGq10
import Derived.Test.YtihfjkjbfaneeaaGreatDoorGq09
set_option maxRecDepth 100000
set_option maxHeartbeats 8000000
set_option linter.all false
namespace Go.Proofs.YtihfjkjbfaneeaaGreatDoor
open Go.Proofs.Tryz
open _root_ renaming Nat->I,Int->J
open Go.Value renaming int->C,slice->T
open _root_.List renaming length->O
open Go.World renaming heap->U
open _root_.Array renaming size->K
open Go.IntKind renaming i64->Y
open Go.RowKit renaming Hid->D
open Go renaming World->X
open Option renaming some->H
open Go.Obj renaming cells->M
open Go.Value renaming slice->AX,int->Ab,slice->Ac,pointer->Ad,string->Ae,tuple->Af,agg->Ag,bool->Ah,iface->Ai,ownBlock->Ax
open Go.Obj renaming cells->Aj
open Go.Ending renaming returned->Ak
open Go.IntKind renaming i64->Al
open Option renaming some->An,none->Ao
open Go renaming DataW->AM,TypeId->AN,World->Ap,Value->Aq,Calls->Ar
open Go.Proofs.Tryz renaming prog->As
open _root_.List renaming length->At,toArray->Aw
open _root_.Array renaming size->Au,setIfInBounds->Ay
open Go.World renaming setCell->AB,cell?->AC,setRow->AD,heap->Av,alloc->Az
open Go.RowKit.Hid renaming out->AE
open Or renaming inl->AF,inr->AG
open _root_ renaming Nat->AH,Int->AI,List->AJ,Bool->AK,Except->AS
open _root_.Bool renaming true->AP,false->AQ
variable{A B L S S' b b0 base bc cap ccap cn fc fuel gcap i j lcap lo mn sc scap sn t0:I}{V W W' W0 w:X}{fm:J}{d:A2}{bv cs gv lv' sv u v0 y:Aq}{ba ca fa ga la pa sa:A4}{V':Ap}{all bs fed l:A1}{arr:A3}{cl:AK}{ops:Array Oper}{md:Region.Mode}{o:Oper}{q:D5}{c:CD}{t:AN}{r:AS J A1}{sts:AJ ((I->I)×J×J)}{mf nf:Lit->Option I}{fb:Option I}{h:I->In}
section
open Go.RowKit Go.Lib
theorem qtX{k:I}{F:I->Prop}{a:A3}(r:fm=1\/fm=2\/fm=3)(hF:∀j,F j->j<K (U W))(h:CP k W F (.agg a) d)(l:EX k d)(u:DA k d<=149999999):Ar As 47 #[C Y fm,.agg a] W (I5 (_root_.Decidable.decide (fm=1)&&Fd k d) (Ft fm k d) W):=by
 have f:D (ED W a (Az W (M a 101))):=K1;obtain⟨w,n,s,v,x,y,z,A,B,e⟩:=h.shape;injection e with e;have g:∀V,A0 W V->CP k V F (.agg a) d/\∀j,F j->j<K (U V):=λV b=>⟨h.same (λ_ h=>h) (λj i=>b.block j (hF j i)),λj i=>CK (hF j i) b.size⟩
 have o:=G (λV b=>Xs k V F a d (g V b).2 (g V b).1 (Cy (U6 k d l) u));have m:=G (λV b=>TI k V F a d (g V b).2 (g V b).1 (AY (U4 k d)));have p:=G (λV b=>Xr k V F a d (g V b).2 (g V b).1 (AY (jf k d)));have t:=TH k d l;subst e;unfold Ce at *;have N:=Cb f.box 0;have P:=Cb f.box 1;have Q:=Cb f.box 2;have S:=Cb f.box 3;have z4:=Cb f.box 4;rcases r with rfl|rfl|rfl
 case' inl =>
  have c:=o.out _ f.below;unfold Ft;rw[Cn rfl,t,show(_root_.Decidable.decide ((1:J)=1)&&Fd k d)=Fd k d from rfl];generalize Jw k d=R at *;generalize Fd k d=hb at *;unfold I5 at c
 case' inr.inl =>
  have c:=m.out _ f.below;unfold Ft;rw[Ci B8,Cn rfl,show(_root_.Decidable.decide ((2:J)=1)&&Fd k d)=AQ from rfl];generalize Do k d=R at *;unfold E4 CQ at c
 case' inr.inr =>
  have c:=p.out _ f.below;unfold Ft;rw[Ci B8,Ci B8,show(_root_.Decidable.decide ((3:J)=1)&&Fd k d)=AQ from rfl];generalize I4 k d=R at *;unfold E4 CQ at c
 all_goals
  go_enter func47,ntmps47
  go_wp2_with((first|go_at_call 85|go_at_call 86|go_at_call 87);refine c.mono ?_;rintro e L ⟨rfl,q⟩)
  refine CL (Fw results47 _ _ _) Z ?_;exact⟨rfl,(f.next q).below⟩
theorem jj{f:J}(h:FQ f=AP):f=1\/f=2\/f=3:=by unfold FQ at h;simp at h;omega
structure FC(V:World)(B b0:Nat)(cs gv:Value)(la:A4)(lcap M:Nat)(xs:List Value):Prop where
 wd:Sr B b0 cs gv (.slice la (4*M) lcap) (4*M) xs V
 all:∀(i:Nat) (v:Value),xs[i]?=some v->Hr V v (.int .u8 (E7 i)) 0
 dis:∀(i:Nat) (v:Value) (g:Nat),xs[i]?=some v->v.ownBlock=some g->B<g/\g<V.heap.size/\(Value.slice la (4*M) lcap).ownBlock≠some g
 grp:Wp xs
 big:∀(i:Nat) (a:A4) (n c:Nat),xs[i]?=some (Value.slice a n c)->n<=1000000000
theorem FC.len{M:I}{xs:AJ Aq}(h:FC V B b0 cs gv la lcap M xs):O xs=4*M:=AY h.wd.row.1
theorem FC.rd{M:I}{xs:AJ Aq}(h:FC V B b0 cs gv la lcap M xs):Lz V B la (4*M) lcap xs E7:=by
 refine⟨Cb h.wd.wd 2,h.len,λi v c=>?_,h.all⟩;rcases h.wd.row.2 with⟨a,b⟩|⟨g,d,f,e,a,b,j,k,l,m⟩
 .have n:=Dh c;have:=h.len;omega
 grind [Cb]
theorem FC.hdis{M:I}{xs:AJ Aq}(h:FC V B b0 cs gv la lcap M xs):∀(i:I) (v:Aq) (g:I),xs[i]?=H v->Ax v=H g->g≠B/\∀gr,la=Aa gr->g≠gr:=λi v g b c=>by obtain⟨f,j,d⟩:=h.dis i v g b c;refine⟨E,λgr e a=>d ?_⟩;subst e;subst a;rfl
theorem q5I(h:A7 V B #[cs,gv,T Ao 0 0] 31):FC V B b0 cs gv Ao 0 0 [] :=
 ⟨⟨h,Fa _ _ _ _,λg e=>kec⟩,λi v h=>Bx,λi v g h=>Bx,λi b v d g h=>Bx,λi a n c h=>Bx⟩
def IS(la:A4)(lcap M:AH)(xs:AJ Aq)(j:AH):Prop:=Ax (AX la (4*M) lcap)=An j\/∃(i:AH) (v:Aq),xs[i]?=An v/\Ax v=An j
theorem FC.kept{V:Ap}{M:I}{xs:AJ Aq}{X:I->Prop}(h:FC V B b0 cs gv la lcap M xs)(hb:Ds V V' X)(c:∀j,j=B\/IS la lcap M xs j->¬X j):FC V' B b0 cs gv la lcap M xs :=
 ⟨⟨(hb.block B (Cc h.wd.wd) (c _ (AF rfl))).trans h.wd.wd,Oo h.wd.row (λj e=>hb.block j (Ek h.wd.row e) (c _ (AG (AF e)))),h.wd.ne⟩,λi v d=>(h.all i v d).keep (λg e=>hb.block g (h.dis i v g d e).2.1 (c _ (AG (AG ⟨i,v,d,e⟩)))),λi v g a b=>⟨(h.dis i v g a b).1,B3 ((h.dis i v g a b).2.1) hb.size,(h.dis i v g a b).2.2⟩,h.grp,h.big⟩
theorem FC.next{V:Ap}{M:I}{xs:AJ Aq}(h:FC V B b0 cs gv la lcap M xs)(hb:A0 V V'):FC V' B b0 cs gv la lcap M xs:=h.kept (X:=λ_=>False) (Ls hb) λ_ _=>id
theorem FC.more{v1 v2 v3:Aq}{M:I}{xs:AJ Aq}(h:FC W B b0 cs gv la lcap M xs)(d:On W B b0 base S (C .u8 (E7 (4*M))) cs gv (Ax (AX la (4*M) lcap)) (Ax v0) [v0,v1,v2,v3] lv' (4*M+4) (xs++[v0,v1,v2,v3]) V)(t:∀(i:I) (v:Aq) (g:I),xs[i]?=H v->Ax v=H g->g<base)(ab:∀v,v∈[v0,v1,v2,v3]->∀a n c,v=T a n c->n<=1000000000):∃p q,lv'=T p (4*(M+1)) q/\FC V B b0 cs gv p q (M+1) (xs++[v0,v1,v2,v3]):=by
 have hl:=h.len;obtain⟨p,q,rfl⟩:=QV d.wd.row;have Q:4*M+4=4*(M+1):=E;have N:=d;rw[Q]at N;refine⟨p,q,by rw[Q],?_⟩;have u:∀(i:I) (v:Aq),¬i<4*M->(xs++[v0,v1,v2,v3])[i]?=H v->v∈[v0,v1,v2,v3]/\i/4=M:=λi v b f=>B9;have j:∀(i:I) (v:Aq),i<4*M->(xs++[v0,v1,v2,v3])[i]?=H v->xs[i]?=H v:=λi v b f=>B9;have ac:=λi v g w x=>by have s:=h.dis i v g w x;refine d.frm.block g s.2.1 (λhx=>?_);have A:=t i v g w x;have o:=(d.all v0 Ba).2 g;clear d N ab u j t h;grind
 refine⟨N.wd,λi v f=>?_,λi v g f k=>?_,λi m v r g f P k L=>?_,λi a n c f=>?_⟩
 .by_cases b:i<4*M
  .exact(h.all i v (j i v b f)).keep (λg e=>ac i v g (j i v b f) e)
  obtain⟨l,F⟩:=u i v b f;have e:E7 i=E7 (4*M):=by grind [E7]
  rw[e];obtain⟨a,n,R,w,x⟩:=(d.all v l).1;exact⟨a,n,R,w,x.imp_right λ⟨g,aa,k1,_,k2,k3,k4⟩=>⟨g,aa,k1,En _,k2,k3,k4⟩⟩
 .by_cases b:i<4*M
  .have s:=h.dis i v g (j i v b f) k;have A:=t i v g (j i v b f) k;refine⟨s.1,B9,λe=>?_⟩;have z:Ax (AX p (4*M+4) q)=H g:=E;rcases d.rb g z with o|o
   .exact s.2.2 o.symm
   have:=d.sz;omega
  obtain⟨l,F⟩:=u i v b f;have s:=(d.all v l).2 g k;refine⟨AY d.sz,AY d.sz,λe=>?_⟩;have z:Ax (AX p (4*M+4) q)=H g:=E;rcases d.rb g z with o|o
  .have:=d.lb g o.symm;omega
  omega
 .by_cases b:i<4*M
  .by_cases y:m<4*M
   .exact h.grp i m v r g (j i v b f) (j m r y P) k L
   have A:=t i v g (j i v b f) k;obtain⟨l,F⟩:=u m r y P;have:=(d.all r l).2 g L;omega
  obtain⟨l,F⟩:=u i v b f;by_cases y:m<4*M
  .have A:=t m r g (j m r y P) L;have:=(d.all v l).2 g k;omega
  grind
 by_cases b:i<4*M
 .exact h.big i a n c (j i _ b f)
 grind
theorem qtC{g:I}{s:A1}(h:w.heap[g]?=H (M (Is (s++J0)) 5))(b:O s<=200000000):Fi w (H ⟨g,0,Ao⟩) s:=by refine⟨λi a=>⟨g,0,rfl,(Cc h),?_⟩,Bc⟩;rw[Gw,Cb h i,Qy,GM a,D3 a];rfl
theorem q46{w5 w6:X}{M:I}{xs:AJ Aq}{ln:I}{a0 a1 a2 a3:A4}{c0 c1 c2 c3:I}(p:FC w5 B b0 cs gv la lcap M xs)(hb:∀j,IS la lcap M xs j->j<base)(r:v0=T a0 ln c0)(s:ln<=200000000)(d:On w5 B b0 base S (C .u8 (E7 (4*M))) cs gv (Ax (AX la (4*M) lcap)) (Ax v0) [v0,T a1 (ln+1) c1,T a2 (ln+2) c2,T a3 (ln+3) c3] lv' (4*M+4) (xs++[v0,T a1 (ln+1) c1,T a2 (ln+2) c2,T a3 (ln+3) c3]) w6):∃k l m,FC w6 B b0 cs gv k l (M+1) m/\∀j,IS k l (M+1) m j->IS la lcap M xs j\/base<=j:=by
 obtain⟨k,l,e,q⟩:=p.more d (λi v g b f=>hb g (AG ⟨i,v,b,f⟩)) (λv t a n c e=>by clear d;grind);refine⟨_,_,_,q,λj h=>?_⟩;rcases h with h|⟨i,v,b,f⟩
 .rcases d.rb j (by rw[e];exact h)with h3|h3
  .exact AF (AF h3.symm)
  exact AG (Cy d.sz.2.1 h3)
 by_cases o:i<O xs
 .rw[GM o]at b;exact AF (AG ⟨i,v,b,f⟩)
 rw[IU E]at b;exact AG ((d.all v (Uv b)).2 j f).1
structure U7(W:World):Prop where
 rd:Lx W
 tb:Kr W.heap.size W
theorem U7.below(h:U7 W)(hb:A0 W V):U7 V:=⟨h.rd.below hb,λb a=>h.tb b (hb.trans (a.mono hb.size))⟩
end
section
open Go.ChangeShapes Go.WideShapes Go.ChangeAt Go.RowKit Go.Lib Go.Deep
theorem qwS(b:laidMetH As Rows.gatesRow.laid W)(f:W.ShapedOpen As):Lx W:=by
 refine⟨(ZE b f).tabs,nC b,?_⟩;have e:laidMet As Rows.gatesRow.laid W:=b;obtain⟨g,t,cs,i,p,c,k,a,j⟩:=laidMet.reads e (d:=Rows.laid_math_bits_deBruijn64tab) (.tail _ (.head _));obtain rfl:g=8:=Fg (c.symm.trans B6);unfold World.var? at a;rw[c]at a;simp only[YZ]at a;split at a
 .next h=>exact Cc h
 cases a
theorem q7E:(prog.globals[6]?).map (·.type)=An 365:=B6
theorem q0X:prog.cellsOf 365=20:=B6
theorem q2p:(Rows.laid_internal_strconv_uint64pow10:A2)=tabData .u64 pow10Tab:=B6
theorem qy2(a:laidMetH As Rows.gatesRow.laid W)(e:W.ShapedOpen As):U7 W:=by
 have c:laidMet As Rows.gatesRow.laid W:=a;refine⟨qwS a e,Lib.tabBelow_of_tabIs ?_⟩;obtain⟨g,t,cs,l,p,h,i,k,b⟩:=laidMet.reads c (d:=Rows.laid_internal_strconv_uint64pow10) (.tail _ (.tail _ (.head _)));obtain rfl:g=6:=Fg (h.symm.trans B6);obtain rfl:=Fg (q7E.symm.trans i);rw[q2p]at b;have f:=cells_of_tab underlying365 underlying270 ZK q0X b;have j:W.var? As gL=An cs:=by refine Eq.trans ?_ k;exact congrArg (λs=>W.var? As s) B6
 unfold TabIs;rw[j,<-f]
section
variable{H:Type} {enc:TypeId×Aq->H} {w:Ap}
theorem qxM(d:AM H):1<=Rows.uptoBulk d:=by
 cases d with
 |lit l=>cases l<;>simp[Rows.uptoBulk]
 |_=>rw[Rows.uptoBulk];omega
theorem XV:∀{l:AJ (AM H)} {d:AM H},d∈l->Rows.uptoBulk d<=Rows.uptoBulkAll l
 |[],_,h=>Bo
 |a::r,d,h=>by
  rw[Rows.uptoBulkAll];rcases If.1 h with rfl|h
  .omega
  have:=XV h;omega
theorem jk:∀l:AJ (AM H),O l<=Rows.uptoBulkAll l
 |[]=>En _
 |a::r=>by rw[Rows.uptoBulkAll,FU];have b:=jk r;have c:=qxM a;omega
theorem q5N{cs:AJ Aq}{x:AM H×AJ MemPlace}(h:DataW.trod enc As w 0 (λ_=>AP) AP fuel 34 cs=An x):∃o:In,cs=o.arr.toList/\(-9223372036854775808<=o.a/\o.a<=9223372036854775807)/\o.s.size<=Rows.uptoBulk x.1:=by
 obtain⟨R,aa,_,rfl,p,B,c⟩:=Qg underlying34 h;rw[Zz]at p
 match cs,p,R,B with
 |[v0,v1,v2,v3,v4,v5,v6],_,[y0,y1,y2,y3,y4,y5,y6],_ =>
  have r:=GB c 0 Z 0 Z Z Io Z Z;have t:=GB c 1 Z 1 Z Z Io Z Z;have u:=GB c 2 Z 2 Z Z Io Z Z;have v:=GB c 3 Z 3 Z Z Io Z Z;have y:=GB c 4 Z 4 Z Z Io Z Z;have z:=GB c 5 Z 5 Z Z Vk Z Z;have A:=GB c 6 Z 6 Z Z my Z Z;obtain⟨S,e,_⟩:=II underlying3 r;obtain⟨V,f,_,Q⟩:=II underlying3 t;obtain⟨W,g,_⟩:=II underlying3 u;obtain⟨n,i,_⟩:=II underlying3 v;obtain⟨z4,j,_⟩:=II underlying3 y;obtain⟨b,k,F⟩:=UB underlying9 z;obtain⟨L,P,N,q⟩:=mE underlying32 C4;simp at e f g i j k;subst e f g i j k q;have d:=bounds_i64 Q;refine⟨⟨S,V,W,n,z4,b,L,P,N⟩,Z,⟨by simpa using d.1,by simpa using d.2⟩,?_⟩;obtain⟨rfl,_⟩:=F;have m:Rows.uptoBulk (DataW.lit (H:=H) (.string b.data.toList))<=_:=XV (l:=[y0,y1,y2,y3,y4,(DataW.lit (.string b.data.toList),[]),y6].map Prod.fst) Ba;simp only[GO,Lh]at m ⊢;rw[show Rows.uptoBulk (DataW.lit (H:=H) (.string b.data.toList))=O b.data.toList+1 by rw[Rows.uptoBulk]]at m;rw[Rows.uptoBulk];have h2:O b.data.toList=b.size:=by rw[FE];rfl
  show b.size<=_;omega
end
end
section
open Go.RowKit Go.Lib
def DF(arr:A3)(all:A1)(cl:AK):A3:=arr++#[Ae ⟨Aw all⟩,Ah cl]
theorem OQ(a:arr.size=11)(j:I):(DF arr all cl)[11+j]?=#[Value.string ⟨Aw all⟩,Ah cl][j]?:=by unfold DF;rw[MM E,a,show 11+j-11=j by omega]
theorem MH(h:arr[j]?=H u):(DF arr all cl)[j]?=H u:=by unfold DF;rw[Yz (Cc h),h]
theorem q3H(a:arr.size=11)(l:A1):Ay (DF arr all cl) 11 (Ae ⟨Aw l⟩)=DF arr l cl:=by unfold DF;apply P7;have h:O arr.toList=11:=Bl;rw[Q8,Qe,Yx _ _ E,h,Qe];rfl
theorem jN{P:Program}{Q:Exit->Act->X->Prop}{listed:Array AK}{a:Act}{S:X->Prop}{p q:Oper}(i j l:I)(h:(∀b:Act->X->Prop,Shut (∀a w,S w->(S w->wpAnyH P md ops Q S fuel (Ay listed i AP) a w)->b a w)->if Region.wanted o (yielded ops a.tmps)=AP then Oper.wp P o a w b Q else b (a.put o.dst Go.undef) w))(k:(∀b:Act->X->Prop,Shut (∀a w,S w->(S w->wpAnyH P md ops Q S fuel (Ay listed j AP) a w)->b a w)->if Region.wanted p (yielded ops a.tmps)=AP then Oper.wp P p a w b Q else b (a.put p.dst Go.undef) w))(m:(∀b:Act->X->Prop,Shut (∀a w,S w->(S w->wpAnyH P md ops Q S fuel (Ay listed l AP) a w)->b a w)->if Region.wanted q (yielded ops a.tmps)=AP then Oper.wp P q a w b Q else b (a.put q.dst Go.undef) w))(hi:ops[i]?=H o:=by rfl)(c:ops[j]?=H p:=by rfl)(hl:ops[l]?=H q:=by rfl)(d:Region.ready md ops listed=[i,j,l]:=by kernel_rfl):wpAnyH P md ops Q S (fuel+1) listed a w:=S1 d Ba (NX hi h (NX c k (NX hl m RY)))
theorem Y6{β:Type}{P:Program}{Q:Exit->Act->X->Prop}{S:X->Prop}{listed:Array AK}{a:Act}(L:Array AK)(b:I)(c:β->AJ (I×Aq))(T:β->Prop)(d:β->X)(e:(∀x,T x->wpAnyH P md ops Q S b L ((c x).foldl (λa p=>a.put (H p.1) p.2) a) (d x))->wpAnyH P md ops Q S fuel listed a w)(f:∀x,T x->wpAnyH P md ops Q S b L ((c x).foldl (λa p=>a.put (H p.1) p.2) a) (d x)):wpAnyH P md ops Q S fuel listed a w:=e f
def Ui(D:AS (AI×AI) (AM Unit))(n:AH):AI:=match D with
 |.error f=>if f.2<(n:AI)then f.1 else 0
 |.ok _=>0
def OR(k:AH)(bs:A1)(l:AI)(D:AS (AI×AI) (AM Unit))(X:AH->Prop)(T:A3)(F:AI×AI)(V:Ap):Prop :=
 (∃kd n s a i j b p m,T=Ce kd n s (Ac a i j) (Ac b p m))/\match D with
 |.ok dd=>F=(0,0)/\CP k V X (.agg T) dd/\(At bs:AI)<=l
 |.error f=>F=f
theorem LO{k:I}{l:J}{D:AS (J×J) (AM Unit)}{e:Ending}(h:ji k bs l W D e W'):∃c F,e=Ak (Af #[.agg c,.agg (Cd F)])/\A0 W W'/\OR k bs l D (λj=>K (U W)<=j/\j<K (U W')) c F W':=by
 obtain⟨d,h⟩:=h;obtain f|r:=D
 .exact⟨_,f,h,d,⟨_,_,_,_,_,_,_,_,_,Z⟩,Z⟩
 obtain⟨⟨t,n,s,a,i,j,b,p,m,g,o⟩,q⟩:=h;exact⟨_,(0,0),g,d,⟨_,_,_,_,_,_,_,_,_,Z⟩,Z,o,q⟩
theorem OR.same{k:I}{l:J}{D:AS (J×J) (AM Unit)}{X Y:I->Prop}{T:A3}{F:J×J}{V:Ap}(h:OR k bs l D X T F V)(b:∀j,X j->Y j)(c:∀j,X j->V'.heap[j]?=V.heap[j]?):OR k bs l D Y T F V':=by
 obtain⟨d,a⟩:=h;refine⟨d,?_⟩;obtain f|e:=D
 .exact a
 exact⟨a.1,a.2.1.same b c,a.2.2⟩
structure Y7(V1:World)(k:Nat)(bs:A1)(l:Int)(D:Except (Int×Int) (DataW Unit))(x:Nat×Nat×A3×(Int×Int)×World):Prop where
 tb:x.2.2.2.2.heap[x.1]?=some (.cells Cr 101)
 fb:x.2.2.2.2.heap[x.2.1]?=some (.cells (Cd (0,0)) 103)
 ne:x.1≠x.2.1
 lo:V1.heap.size<=x.1/\V1.heap.size<=x.2.1
 below:A0 V1 x.2.2.2.2
 says:OR k bs l D (λj=>V1.heap.size<=j/\j<x.2.2.2.2.heap.size/\j≠x.1/\j≠x.2.1) x.2.2.1 x.2.2.2.1 x.2.2.2.2
theorem Kx{V1 wc wd:X}{k:I}{l:J}{D:AS (J×J) (AM Unit)}{T:A3}{F:J×J}{ba bb:I}(g:OR k bs l D (λj=>K (U wc)<=j/\j<K (U wd)) T F wd)(a:A0 V1 wc)(e:A0 wc wd)(c:A0 wd V)(f:A7 V ba Cr 101)(hb:A7 V bb (Cd (0,0)) 103)(d:K (U V1)<=ba/\K (U V1)<=bb/\ba≠bb/\(ba<K (U wc)\/K (U wd)<=ba)/\(bb<K (U wc)\/K (U wd)<=bb)):Y7 V1 k bs l D (ba,bb,T,F,V) :=
 ⟨f,hb,d.2.2.1,⟨d.1,d.2.1⟩,a.trans ((e.mono a.size).trans (c.mono (Cy a.size e.size))),g.same (λj b=>⟨Cy a.size b.1,CK b.2 c.size,by show j≠ba;omega,by show j≠bb;omega⟩) λj b=>c.block j b.2⟩
theorem NF(w:Ap)(X a:Obj):(Az (Az w X) a).heap[K (U w)]?=H X/\(Az (Az w X) a).heap[K (U w)+1]?=H a/\A0 w (Az (Az w X) a)/\K (U (Az (Az w X) a))=K (U w)+2 :=
 ⟨(Cx _ _ _ Ba).trans (Cj _),B2 (Cj (Az w X) (o:=a)),Cl.trans (Cl.mono Ba),Ba⟩
theorem qwy{G:I}{b:A1}{d l:J}(hs:arr.size=11)(h6:arr[6]?=H (C Y fm))(h8:arr[8]?=H (C Y d))(h9:arr[9]?=H (C Y l))(q:A7 W G (DF arr all AQ) 72)(ay:fm=1\/fm=2\/fm=3)(ap:0<=d)(ax:d<=100000)(az:0<=l)(a0:l<=200000000)(hb:O (all++b)<=200000000):Ar As 37 #[A8 G,Ae ⟨Aw b⟩] W λe W'=>e=Ak (C Y (Ui (DN fm (all++b) d l) (O (all++b))))/\Cg G W W'/\A7 W' G (DF arr (all++b) AQ) 72:=by
 have bd:A6 W G 12 (Ah AQ):=(Cb q 12).trans (OQ hs 1);have bc:A6 W G 11 (Ae ⟨Aw all⟩):=(Cb q 11).trans (OQ hs 0);have a6:=Dq W G 11 _ _ q;have a8:¬(O all+O b>9223372036854775807):=by simp at hb;omega
 have HV:D ((AB W ⟨G,11,Ao⟩ (.string (⟨Aw all⟩++⟨Aw b⟩))).heap[G]?=H (M (DF arr (all++b) AQ) 72)):=by show _=_;rw[DQ _ _ _ _ _ _ q,EL,q3H hs]
 have HB:D (Cg G W (AB W ⟨G,11,Ao⟩ (.string (⟨Aw all⟩++⟨Aw b⟩)))):=⟨Z,Z,Z,Bd,λa9 _ hi=>CY W _ _ _ keQ⟩
 have B:=C9 (λV=>XU V d l (bs:=all++b) ay ap ax az a0 hb);obtain⟨ad,HD⟩:=CA (DN fm (all++b) d l);rw[AE HD]at B ⊢;obtain⟨a4,HK⟩:=CA (d.toNat+1);rw[AE HK]at B;obtain⟨en,aj⟩:=CA (Ui ad (O (all++b)));rw[AE aj];clear q;go_enter func37,ntmps37;go_wp2;generalize AB W _ _=V1 at *;have au:D (∀V,A0 V1 V->A7 V G (DF arr (all++b) AQ) 72):=λV hV=>(hV.block G (Cc HV)).trans HV;have H6:=C9 h6;have H8:=C9 h8;have H9:=C9 h9;have am:=C9 hs;clear h6 h8 h9 hs;refine Dl (S:=λo=>A7 o G (DF arr (all++b) AQ) 72) HV B6 ?_;intro a;refine Ca 0 21 (A8 G) a ?_;refine Ca 1 22 (A8 G) a ?_;refine Ca 2 23 (A8 G) a ?_;refine Ca 3 24 (A9 G 6) a ?_;refine Cf 4 25 (C Y fm) Z (λo r=>?y4) a ?_
 case y4=>(have z:o.cell? ⟨G,6,Ao⟩=_:=(Cb r 6).trans (MH H6);go_simp)
 refine Ca 5 26 (A8 G) a ?_;refine Ca 6 27 (A8 G) a ?_;refine Ca 7 28 (A8 G) a ?_;refine Ca 8 29 (A9 G 8) a ?_;refine Cf 9 30 (C Y d) Z (λo r=>?y9) a ?_
 case y9=>(have z:o.cell? ⟨G,8,Ao⟩=_:=(Cb r 8).trans (MH H8);go_simp)
 refine Ca 10 31 (A8 G) a ?_;refine Ca 11 32 (A8 G) a ?_;refine Ca 12 33 (A8 G) a ?_;refine Ca 13 34 (A9 G 9) a ?_;refine Cf 14 35 (C Y l) Z (λo r=>?y14) a ?_
 case y14=>(have z:o.cell? ⟨G,9,Ao⟩=_:=(Cb r 9).trans (MH H9);go_simp)
 refine Ca 15 36 (A8 G) a ?_;refine Ca 16 37 (A8 G) a ?_;refine Ca 17 38 (A9 G 11) a ?_;refine Cf 18 39 (Ae ⟨Aw (all++b)⟩) Z (λo r=>?y18) a ?_
 case y18=>(have z:o.cell? ⟨G,11,Ao⟩=_:=(Cb r 11).trans (OQ am 0);go_simp)
 have aa:D (A0 V1 {V1 with drawn:=V1.drawn+1}):=(Cq _ _).drew;have s:D (∀V,Below (K (U ({V1 with drawn:=V1.drawn+1}:X))) {V1 with drawn:=V1.drawn+1} V->A7 V G (DF arr (all++b) AQ) 72):=λV hV=>au.out V (aa.trans hV);generalize({V1 with drawn:=V1.drawn+1}:X)=V2 at *;refine Y6 (β:=I×I×A3×(J×J)×X) #[AP,AP,AP,AP,AP,AP,AP,AP,AP,AP,AP,AP,AP,AP,AP,AP,AP,AP,AP,AP,AP,AP,AP,AP,AP,AQ,AQ] 2 (λx=>[(40,Af #[.agg x.2.2.1,.agg (Cd x.2.2.2.1)]),(20,Af #[.agg x.2.2.1,.agg (Cd x.2.2.2.1)]),(41,.agg x.2.2.1),(42,.agg (Cd x.2.2.2.1)),(5,A8 x.1),(6,A8 x.2.1)]) (Y7 V2 a4 (all++b) l ad) (λx=>x.2.2.2.2) (λaq=>?_) ?_
 .have R:=C9 aq;clear aq;refine jN 19 23 24 (λu c=>?_) (λu c=>?_) (λu c=>?_)
  .go_simp;refine(B _).mono ?_;rintro e w1 h;obtain⟨p,F,rfl,g,A⟩:=LO h;simp only[];have m:=s.out w1 ((Cq (K (U V2)) V2).trans (g.mono (Cq (K (U V2)) V2).size));refine c.out _ _ m (λ_=>?_);clear c h;refine Ca 20 20 (Af #[.agg p,.agg (Cd F)]) m ?_;refine Ca 21 41 (.agg p) m ?_;refine Ca 22 42 (.agg (Cd F)) m ?_;refine GP 23 24 (λu c=>?_) (λu c=>?_)
   .go_simp;refine c.out _ _ (s _ ((g.trans (Cl.mono g.size)))) (λ_=>?_);clear c;refine CC 24 (λu c=>?_);obtain⟨P,Q,t,t4⟩:=NF w1 (M Cr 101) (M (Cd (0,0)) 103);go_simp;refine c.out _ _ (s _ (g.trans (t.mono g.size))) (λ_=>?_);clear c;exact cast B6 (R (K (U w1),K (U w1)+1,p,F,_) (Kx A (Cq (K (U V2)) V2) g t P Q (AY g.size)))
   go_simp;refine c.out _ _ (s _ ((g.trans (Cl.mono g.size)))) (λ_=>?_);clear c;refine CC 23 (λu c=>?_);obtain⟨P,Q,t,t4⟩:=NF w1 (M (Cd (0,0)) 103) (M Cr 101);go_simp;refine c.out _ _ (s _ (g.trans (t.mono g.size))) (λ_=>?_);clear c;exact cast B6 (R (K (U w1)+1,K (U w1),p,F,_) (Kx A (Cq (K (U V2)) V2) g t Q P (AY g.size)))
  .go_simp;refine c.out _ _ (s _ (Cl)) (λ_=>?_);clear c;have w:A0 V2 (Az V2 (M Cr 101)):=Cl;refine GP 19 24 (λu c=>?_) (λu c=>?_)
   .go_simp;refine(B _).mono ?_;rintro e w1 h;obtain⟨p,F,rfl,g,A⟩:=LO h;simp only[];have m:=s.out w1 (w.trans (g.mono w.size));refine c.out _ _ m (λ_=>?_);clear c h;refine Ca 20 20 (Af #[.agg p,.agg (Cd F)]) m ?_;refine Ca 21 41 (.agg p) m ?_;refine Ca 22 42 (.agg (Cd F)) m ?_;refine CC 24 (λu c=>?_);go_simp;refine c.out _ _ (s _ ((w.trans (g.mono w.size)).trans (Cl.mono (Cy w.size g.size)))) (λ_=>?_);clear c;exact cast B6 (R (K (U V2),K (U w1),p,F,_) (Kx A w g Cl ((Cx _ _ _ C1).trans ((g.block _ Bh).trans (Cj V2))) (Cj w1) Bu))
   obtain⟨P,Q,t,t4⟩:=NF V2 (M Cr 101) (M (Cd (0,0)) 103);go_simp;refine c.out _ _ (s _ (t)) (λ_=>?_);clear c;refine CC 19 (λu c=>?_);go_simp;refine(B _).mono ?_;rintro e w1 h;obtain⟨p,F,rfl,g,A⟩:=LO h;simp only[];have m:=s.out w1 (t.trans (g.mono t.size));refine c.out _ _ m (λ_=>?_);clear c h;refine Ca 20 20 (Af #[.agg p,.agg (Cd F)]) m ?_;refine Ca 21 41 (.agg p) m ?_;refine Ca 22 42 (.agg (Cd F)) m ?_;exact cast B6 (R (K (U V2),K (U V2)+1,p,F,_) (Kx A t g (Cq _ _) ((g.block _ Bh).trans P) ((g.block _ Bh).trans Q) Bu))
  go_simp;refine c.out _ _ (s _ (Cl)) (λ_=>?_);clear c;have w:A0 V2 (Az V2 (M (Cd (0,0)) 103)):=Cl;refine GP 19 23 (λu c=>?_) (λu c=>?_)
  .go_simp;refine(B _).mono ?_;rintro e w1 h;obtain⟨p,F,rfl,g,A⟩:=LO h;simp only[];have m:=s.out w1 (w.trans (g.mono w.size));refine c.out _ _ m (λ_=>?_);clear c h;refine Ca 20 20 (Af #[.agg p,.agg (Cd F)]) m ?_;refine Ca 21 41 (.agg p) m ?_;refine Ca 22 42 (.agg (Cd F)) m ?_;refine CC 23 (λu c=>?_);go_simp;refine c.out _ _ (s _ ((w.trans (g.mono w.size)).trans (Cl.mono (Cy w.size g.size)))) (λ_=>?_);clear c;exact cast B6 (R (K (U w1),K (U V2),p,F,_) (Kx A w g Cl (Cj w1) ((Cx _ _ _ C1).trans ((g.block _ Bh).trans (Cj V2))) Bu))
  obtain⟨P,Q,t,t4⟩:=NF V2 (M (Cd (0,0)) 103) (M Cr 101);go_simp;refine c.out _ _ (s _ (t)) (λ_=>?_);clear c;refine CC 19 (λu c=>?_);go_simp;refine(B _).mono ?_;rintro e w1 h;obtain⟨p,F,rfl,g,A⟩:=LO h;simp only[];have m:=s.out w1 (t.trans (g.mono t.size));refine c.out _ _ m (λ_=>?_);clear c h;refine Ca 20 20 (Af #[.agg p,.agg (Cd F)]) m ?_;refine Ca 21 41 (.agg p) m ?_;refine Ca 22 42 (.agg (Cd F)) m ?_;exact cast B6 (R (K (U V2)+1,K (U V2),p,F,_) (Kx A t g (Cq _ _) ((g.block _ Bh).trans Q) ((g.block _ Bh).trans P) Bu))
 rintro⟨f,v,p,F,N⟩ y;obtain⟨kd,n,z,i,i1,j1,k,p1,m1,e⟩:=y.says.1;have ab:=y.says.2;have av:=y.lo.1;have aw:=y.lo.2;have a3:=y.ne;dsimp only at e ab av aw a3;subst e;have an:N.heap[G]?=_:=s.out N y.below;have a7:G<K (U V2):=Cc a;have ag:(AD N f (Ce kd n z (T i i1 j1) (T k p1 m1))).heap[G]?=H (M (DF arr (all++b) AQ) 72):=(Dg _ _ _ _ E).trans an;have af:(AD N f (Ce kd n z (T i i1 j1) (T k p1 m1))).heap[v]?=H (M (Cd (0,0)) 103):=(Dg _ _ _ _ E).trans y.fb;have ah:(AD (AD N f (Ce kd n z (T i i1 j1) (T k p1 m1))) v (Cd F)).heap[G]?=H (M (DF arr (all++b) AQ) 72):=(Dg _ _ _ _ E).trans ag;have ak:D ((AD (AD N f (Ce kd n z (T i i1 j1) (T k p1 m1))) v (Cd F)).heap[v]?=H (M (Cd F) 103)):=CM _ _ _ _ _ _ af;have ai:D (Cg G W (AD (AD N f (Ce kd n z (T i i1 j1) (T k p1 m1))) v (Cd F))):=by have j:=aa.trans (y.below.mono aa.size);have h2:=aa.size;have L:=AE HB;exact⟨j.os.trans L.os,j.tape.trans L.tape,j.output.trans L.output,by simpa using Cy L.size j.size,λar hj hn=>(Dg _ _ _ _ keu).trans ((Dg _ _ _ _ keu).trans ((j.block ar keu).trans (L.block ar hj hn)))⟩
 have ae:=C9 ah;refine Hy 25 5 41 B6 y.tb thg ag ?_;refine sF 26 6 42 B6 af ah ?_;refine CG ?_;go_simp;clear an ag af ah y;generalize AD (AD N f _) v (Cd F)=w11 at *;have al:D (en=if F.1=0 then 0 else if F.2<(O (all++b):J)then F.1 else 0):=by
  have h:=AE aj;have ao:=QL fm (all++b) d l ap;rw[AE HD]at ao;obtain a5|dd:=ad
  .obtain rfl:=ab;show _=_;rw[<-h,Ci (ao F.1 F.2 rfl)];rfl
  obtain⟨rfl,_⟩:=ab;exact h.symm
 clear ab B
 go_wp2_with fail
 refine Dl (S:=λo=>A7 o v (Cd F) 103/\A7 o G (DF arr (all++b) AQ) 72) ⟨ak,ae⟩ B6 ?_;intro a;refine Ca 0 43 (A8 v) a ?_;refine Cf 1 44 (C Y F.1) Z (λo r=>?y1) a ?_
 case y1=>(have z:A6 o v 0 (C Y F.1):=Cb r.1 0;go_simp)
 by_cases h0:F.1=0
 .have HE:D (en=0):=by rw[AE al,Cn h0];rfl
  refine Cf 2 45 (Ah AQ) Z (λo r=>?y2) a ?_
  case y2=>(rw[h0];go_simp)
  refine Ca 3 46 (Ah AQ) a ?_;refine DR 4 47 a ?_;refine DR 5 48 a ?_;refine DR 6 49 a ?_;refine DR 7 50 a ?_;refine DR 8 51 a ?_;refine DR 9 52 a ?_;refine DR 10 53 a ?_;refine DR 11 54 a ?_;refine Ca 12 55 (Ah AQ) a ?_;refine CG ?_;go_simp;go_wp2;go_ret;rw[AE HE];exact⟨Z,ai.trans (.of_below (Cq _ _).drew),ae⟩
 have a2:(F.1 != 0)=AP:=by simpa using h0
 obtain⟨ac,HQ⟩:=CA (_root_.Decidable.decide (F.2<(O (all++b):J)));have HE:D (en=bif ac then F.1 else 0):=by show _=_;rw[AE al,Ci h0,<-AE HQ];grind
 refine Cf 2 45 (Ah AP) Z (λo r=>?y2) a ?_
 case y2=>(go_simp;try exact congrArg (λx=>Result.ok (Next.value (Value.bool x)) o) a2)
 refine Ca 3 46 (Ah AP) a ?_;refine Ca 4 47 (A9 v 1) a ?_;refine Cf 5 48 (C Y F.2) Z (λo r=>?y5) a ?_
 case y5=>(have z:A6 o v 1 (C Y F.2):=Cb r.1 1;go_simp)
 refine Ca 6 49 (A8 G) a ?_;refine Ca 7 50 (A8 G) a ?_;refine Ca 8 51 (A9 G 11) a ?_;refine Cf 9 52 (Ae ⟨Aw (all++b)⟩) Z (λo r=>?y9) a ?_
 case y9=>(have z:o.cell? ⟨G,11,Ao⟩=_:=(Cb r.2 11).trans (OQ am 0);go_simp)
 refine Cf 10 53 (C Y (O (all++b))) Z (λo r=>?y10) a ?_
 case y10=>(go_simp;try rfl)
 refine Cf 11 54 (Ah ac) Z (λo r=>?y11) a ?_
 case y11=>(go_simp;have h:=AE HQ;simpa using h)
 refine Ca 12 55 (Ah ac) a ?_;refine CG ?_;go_simp;have r0:A6 w11 v 0 (C Y F.1):=Cb ak 0;have r1:({w11 with drawn:=w11.drawn+1}:X).cell? ⟨v,0,Ao⟩=H (C Y F.1):=r0;generalize F.1=e1 at *;cases ac
 all_goals
  go_wp2;go_ret;rw[AE HE];exact⟨Z,ai.trans (.of_below (Cq _ _).drew),ae⟩
theorem jR{G:I}{b:A1}(d:arr.size=11)(c:A7 W G (DF arr all AP) 72):(Ar As 37 #[A8 G,Ae ⟨Aw b⟩] W λe a=>e=Ak (C Y 15)/\a=W)/\Ar As 39 #[A8 G] W λe a=>e=Ak (Af #[Ae ⟨#[]⟩,.agg (CB (0,0,0,0)),C Y 15,C Y 0])/\A0 W a:=by
 have f:A6 W G 12 (Ah AP):=(Cb c 12).trans (OQ d 1);have g:(Az W (M #[C Y 0,C Y 0,C Y 0,C Y 0] 82)).cell? ⟨G,12,Ao⟩=H (Ah AP):=(Cl.cell (p:=⟨G,12,Ao⟩) (Cc c)).trans f;constructor
 .go_enter func37,ntmps37;go_wp2;go_ret;exact⟨Z,Z⟩
 go_enter func39,ntmps39;go_wp2;exact CL (NG results39 Z (Cj _) underlying82 Z MI Z Z Z) Z ⟨Z,Cl⟩
theorem jS{f:A2->Cu->Option (AM Unit)×Cu}{d':A2}:∀(ds:AJ (AM Unit)) (acc:AJ (AM Unit)) (R:Cu),d'∈(ds.foldl (λa d=>(a.1++(f d a.2).1.toList,(f d a.2).2)) (acc,R)).1->d'∈acc\/∃d∈ds,∃b,(f d b).1=H d'
 |[],_,_,h=>AF h
 |d::ds,acc,R,h=>by rcases jS ds _ _ h with h|⟨x,c,h⟩<;>grind
theorem jT{f:A1->A2->Cu->Option (AM Unit)×Cu}{e':Lit×AM Unit}:∀(es:AJ (Lit×AM Unit)) (acc:AJ (Lit×AM Unit)) (R:Cu),e'∈(es.foldl (λa e=>(a.1++((f (CX e.1) e.2 a.2).1.map λd=>(e.1,d)).toList,(f (CX e.1) e.2 a.2).2)) (acc,R)).1->e'∈acc\/∃e∈es,e'.1=e.1/\∃b,(f (CX e.1) e.2 b).1=H e'.2
 |[],_,_,h=>AF h
 |e::es,acc,R,h=>by
  rcases jT es _ _ h with h|⟨x,c,h⟩
  .rcases Qi.1 h with h|h
   .exact AF h
   refine AG ⟨e,LR ..,?_⟩;simp at h;grind
  grind
theorem jU:∀l:A1,(l.map λb=>[b]).flatten=l
 |[]=>rfl
 |b::l=>by rw[GO,YS,jU l];rfl
theorem jV:∀{l:A1},(∀b∈l,b.toNat<128)->Fs l:=λ{l} h=>⟨l.map λb=>[b],λw d=>(by obtain⟨b,c,rfl⟩:=KI.1 d;have:=h b c;exact WS (a:=[]) Z (by grind [Vr,D9])),(jU l).symm⟩
theorem q30(x:I):(Eb x).toNat<128:=by
 unfold Eb;by_cases h:x<16
 .have:∀x,x<16->(([48,49,50,51,52,53,54,55,56,57,97,98,99,100,101,102]:A1).getD x 0).toNat<128:=B8;exact this x h
 simp_all
theorem q3h{key:J}{label:I}:∀b∈JC key label l,b.toNat<128:=by
 have h:∀u,∀b∈hxL u,b.toNat<128:=λu=>by induction u using Nat.strongRecOn<;>grind [Rw,q30,TJ]
 intro b a;rcases Qi.1 a with a|a
 .simp_all
 exact h _ b a
theorem Y8(c:Rv):∀(k:I) (p:AJ (A1×AK)) (d:A2) (R:Cu) (d':A2),EX k d->(CW c k p d R).1=H d'->EX k d'
 |0,_,_,_,_,_,_=>trivial
 |k+1,p,d,R,d',h,e=>by
  rw[CW]at e;split at e
  .cases e
   cases d with
   |agg ds =>
    intro x a;rcases jS ds [] _ a with a|⟨y,b,g,a⟩
    .cases a
    exact Y8 c k _ y g x (h y b) a
   |map es =>
    intro x a;rcases jT (f:=λkey=>CW c k ((key,AQ)::p)) es [] _ a with a|⟨y,b,i,g,a⟩
    .cases a
    rw[i];exact⟨(h y b).1,Y8 c k _ y.2 g x.2 (h y b).2 a⟩
   |_=>exact h
  split at e
  .cases e;exact jV B8
  split at e
  .cases e;exact jV q3h
  cases e
theorem Y9{c:Rv}{k:I}{R:Cu}(h:EX k d):EX k ((CW c k [] d R).1.getD .nil):=by
 rcases e:(CW c k [] d R).1 with _|a
 .cases k<;>trivial
 grind [Y8]
end
section
open Go.RowKit Go.Shelf
theorem qvs(i o d b:J):(FR i o d b=AQ/\FQ i=AQ)\/(FR i o d b=AQ/\FQ i=AP/\FQ o=AQ)\/(FR i o d b=AQ/\FQ i=AP/\FQ o=AP/\d<1)\/(FR i o d b=AQ/\FQ i=AP/\FQ o=AP/\1<=d/\16<d) \/
  (FR i o d b=AQ/\FQ i=AP/\FQ o=AP/\1<=d/\d<=16/\b<1)\/(FR i o d b=AQ/\FQ i=AP/\FQ o=AP/\1<=d/\d<=16/\1<=b/\4096<b)\/(FR i o d b=AP/\FQ i=AP/\FQ o=AP/\1<=d/\d<=16/\1<=b/\b<=4096):=by
 grind [FR]
theorem qnn:ms 27 Df Ew:=by
 intro c w x hg;have y:=G x;have ah:D (O c.B<=maxLen):=by have:=x.bb;show _<=_;unfold maxLen;omega
 have P:=G c.size;have b:=G (iH w c);have s:=yB (b.cfg x);clear x hg;cases o:EV c.labels c.L
 focus
  have d:LI c=AQ:=by unfold LI;rw[o];rfl
  have f:D (Df c=1):=by show _=_;unfold Df;simp[d]
  have i:D (Ew c=0):=by show _=_;unfold Ew;rw[AE f];rfl
  rw[o]at s;clear o d
 rotate_left
 rw[o]at s;obtain⟨A,F⟩:=TV o;have N:=G F;have aj:=G A.symm;have ai:D (c.arr[0]?=H (C Y (c.labels.toNat:I))):=by show _=_;rw[A];rfl
 have S:=λal ak=>Pd ai al ak;have d:LI c=(Dt c.labels.toNat c.dflt&&Dt c.labels.toNat c.clr):=by unfold LI;rw[o];rfl
 clear o A F;cases j:Dt c.labels.toNat c.dflt
 focus
  have f:D (Df c=1):=by show _=_;unfold Df;simp[d,j]
  have i:D (Ew c=0):=by show _=_;unfold Ew;rw[AE f];rfl
  clear d
 rotate_left
 cases k:Dt c.labels.toNat c.clr
 focus
  have f:D (Df c=1):=by show _=_;unfold Df;simp[d,j,k]
  have i:D (Ew c=0):=by show _=_;unfold Ew;rw[AE f];rfl
  clear d
 rotate_left
 cases l:MA c.labels.toNat (DS c.labels.toNat c.L)
 focus
  have f:D (Df c=2):=by show _=_;unfold Df;simp[d,j,k,l]
  have i:D (Ew c=0):=by show _=_;unfold Ew;rw[AE f];rfl
  clear d
 rotate_left
 cases m:MB c.labels.toNat (DS c.labels.toNat c.L)
 focus
  have f:D (Df c=3):=by show _=_;unfold Df;simp[d,j,k,l,m]
  have i:D (Ew c=0):=by show _=_;unfold Ew;rw[AE f];rfl
  clear d
 rotate_left
 rcases qvs c.inn c.out c.depth c.bytes with⟨g,p⟩|⟨g,p,q⟩|⟨g,p,q,t⟩|⟨g,p,q,t,z⟩|⟨g,p,q,t,z,R⟩|⟨g,p,q,t,z,R,b2⟩|⟨g,p,q,t,z,R,b2⟩
 focus
  have f:D (Df c=4):=Bn;have i:D (Ew c=0):=by show _=_;unfold Ew;rw[AE f];rfl
  clear d g
 rotate_left
 focus
  have f:D (Df c=4):=Bn;have i:D (Ew c=0):=by show _=_;unfold Ew;rw[AE f];rfl
  clear d g
 rotate_left
 focus
  have f:D (Df c=4):=Bn;have i:D (Ew c=0):=by show _=_;unfold Ew;rw[AE f];rfl
  clear d g
 rotate_left
 focus
  have f:D (Df c=4):=Bn;have i:D (Ew c=0):=by show _=_;unfold Ew;rw[AE f];rfl
  clear d g
 rotate_left
 focus
  have f:D (Df c=4):=Bn;have i:D (Ew c=0):=by show _=_;unfold Ew;rw[AE f];rfl
  clear d g
 rotate_left
 focus
  have f:D (Df c=4):=Bn;have i:D (Ew c=0):=by show _=_;unfold Ew;rw[AE f];rfl
  clear d g
 rotate_left
 cases u:Il c.B
 focus
  have f:D (Df c=5):=by show _=_;unfold Df;simp[d,j,k,l,m,g,u]
  have i:D (Ew c=0):=by show _=_;unfold Ew;rw[AE f];rfl
  clear d
 rotate_left
 by_cases v:0<=DU c.labels.toNat c.pol.data.toList
 focus
  have f:D (Df c=6):=kdY;obtain⟨V,n⟩:=Dx (DU c.labels.toNat c.pol.data.toList);have Q:=G n;have i:D (Ew c=V):=by show _=_;unfold Ew;rw[AE f,Cn rfl];exact n
  rw[n]at v;clear d g n
 rotate_left
 have f:D (Df c=0):=kdY;obtain⟨V,n⟩:=Dx (DU c.labels.toNat c.pol.data.toList);have Q:=G n;have i:D (Ew c=0):=by show _=_;unfold Ew;rw[AE f];rfl
 rw[n]at v;clear d g n
 all_goals
  go_enter func27,ntmps27;have T1:True:=trivial;have T2:True:=trivial;have T3:True:=trivial;have T4:True:=trivial
  go_wp2_with(first
   |(refine CT Z 40 _ Z _ Z _ _ _ _ b.box underlying40 Z (Ec P) ?_)
   |(refine EU Z ?hw Z b.box underlying40 Z (Ec P) ?_;case hw=>simp[go_sem];done)
   |(go_at_call 59;refine s.mono ?_;clear s;rintro e w2 ⟨rfl,ab⟩;have h:=G (b.step ab);clear b;have b:=h;clear h ab;have k2:A6 w2 (K (U w)) 2 (C Y c.dflt):=b.cell 2)
   |(go_at_call 60;clear T1;refine(S c.dflt _).mono ?_;clear k2;rintro e w3 ⟨rfl,ac⟩;rw[j];have h:=G (b.step ac);clear b;have b:=h;clear h ac;have k4:A6 w3 (K (U w)) 4 (C Y c.clr):=b.cell 4)
   |(go_at_call 60;clear T2;refine(S c.clr _).mono ?_;clear k4;rintro e w4 ⟨rfl,ad⟩;rw[k];have h:=G (b.step ad);clear b;have b:=h;clear h ad;have W:=yl N (b.cfg y).edges)
   |(go_at_call 61;refine W.mono ?_;clear W;rintro e w5 ⟨rfl,ae⟩;rw[l];have h:=G (b.step ae);clear b;have b:=h;clear h ae;have cT:=ym N (b.cfg y).edges)
   |(go_at_call 62;refine cT.mono ?_;clear cT;rintro e r ⟨rfl,af⟩;rw[m];have h:=G (b.step af);clear b;have b:=h;clear h af;have k6:A6 r (K (U w)) 6 (C Y c.inn):=b.cell 6;have k7:A6 r (K (U w)) 7 (C Y c.out):=b.cell 7;have k8:A6 r (K (U w)) 8 (C Y c.depth):=b.cell 8;have k9:A6 r (K (U w)) 9 (C Y c.bytes):=b.cell 9;have am:A6 r (K (U w)) 10 (T c.ba (O c.B) c.bcap):=b.cell 10;have a:=lK c.bcap ah (b.cfg y).ints)
   |(go_at_call 45;clear T3;refine(iG c.inn).mono ?_;rintro e w7 ⟨rfl,rfl⟩;rw[p])
   |(go_at_call 45;clear T4;refine(iG c.out).mono ?_;rintro e w8 ⟨rfl,rfl⟩;rw[q])
   |(go_at_call 63;refine a.mono ?_;clear a k6 k7 k8 k9 am;rintro e w9 ⟨rfl,ag⟩;rw[u];have h:=G (b.step ag);clear b;have b:=h;clear h ag;have cU:=q1Z aj w9)
   |(go_at_call 64;refine cU.mono ?_;clear cU;rintro e an ⟨ua,um,uc,rfl,aa⟩;rw[AE Q];have h:=G (b.step aa);clear b;have b:=h;clear h aa))
  go_ret2
  exact⟨by rw[AE f,AE i];rfl,b.below⟩
theorem q57(h:Df c=0):EV c.labels c.L=AP:=by grind [LI,Df]
theorem q0O{ss:AJ A1}(h:F8 W lo t pa (ss.map K5)):PX W pa ss:=by
 refine⟨λi g=>?_⟩;rcases h with h|⟨b,off,d,fr,e,j,a,f⟩
 .have:=congrArg List.length h;grind
 have c:=f i (by simpa using g);refine⟨b,off,e,(LQ.1 a).1,?_⟩;rw[IJ W b _ d _ fr a,c,List.getElem_map];rfl
theorem Ya.at_{v:Aq}{rs:AJ (AJ A1×J×J)}(h:Ya W lo v rs):∃a c,v=T a (O rs) c/\RK W a rs:=by
 obtain⟨t,h,f⟩:=h;obtain⟨k,⟨b,d⟩|⟨g,c,j,b,d,l,_,_,_,m⟩⟩:=h
 .exact⟨Ao,0,by rw[b,d],⟨λi e=>E⟩⟩
 refine⟨_,_,b,⟨λi e=>?_⟩⟩;obtain⟨r,s,n,o,p,q⟩:=f.2 i keV;grind [cell_of_row,RL,q0O]
theorem qwM(h:Df c=0):DU c.labels.toNat c.pol.data.toList<0:=by grind [Uk,F1]
end
section
open Go.RowKit Go.Lib
theorem q2g(k:I)(d:A2):Ft 1 k d=EZ k d:=Cn rfl
theorem q1O(k:I)(d:A2):Ft 2 k d=Do k d:=by grind [Ft]
theorem q27(k:I)(d:A2):Ft 3 k d=I4 k d:=by grind [Ft]
theorem q5x{k:I}(g:fm=1\/fm=2\/fm=3)(c:Cv k V (λj=>j<K (U V)) (Ai t y) d)(h:O (Ft fm k d)<=999999999)(f:Kr (K (U V)) V):Ar As 82 #[C Y fm,Ai t y] V λe a=>∃b,e=Ak b/\Ck a (K (U V)) b (Ft fm k d)/\A0 V a:=by grind [q2g,xc,q1O,eK,q27,u9]
theorem qxq{k:I}(l:fm=1\/fm=2\/fm=3)(g:Cv k V (λj=>j<K (U V)) (Ai t y) d)(n:O (Ft fm k d)<=999999999)(i:∀a,A0 V a->Kr (K (U a)) a)(m:¬(fm=1/\Fd k d=AP)):Ar As 44 #[C Y fm,Ai t y] V λe f=>∃h,e=Ak (Af #[h,C Y 0])/\Ck f (K (U V)) h (Ft fm k d)/\A0 V f :=
 qsn g m (λa b=>q5x l (g.same (λ_ c=>CK c b.size) (λj c=>b.block j c)) n (i a b))
structure kg(fm:Int)(k:Nat)(d:A2):Prop where
 ok:∀V t y,Cv k V (λj=>j<V.heap.size) (.iface t y) d->(∀U,A0 V U->Kr U.heap.size U)->¬(fm=1/\Fd k d=true)->Calls prog 44 #[.int .i64 fm,.iface t y] V λe V'=>∃v',e=.returned (.tuple #[v',.int .i64 0])/\Ck V' V.heap.size v' (Ft fm k d)/\A0 V V'
 kind:Fd k d=true->∀V t y,Cv k V (λj=>j<V.heap.size) (.iface t y) d->Calls prog 44 #[.int .i64 1,.iface t y] V λe V'=>e=.returned (.tuple #[.slice none 0 0,.int .i64 13])/\A0 V V'
 len:∀V t y,Cv k V (λj=>j<V.heap.size) (.iface t y) d->(Ft fm k d).length<=999999999
theorem qzv{k:I}(e:fm=1\/fm=2\/fm=3)(b:O (Ft fm k d)<=999999999):kg fm k d :=
 ⟨λV t y a c g=>qxq (k:=k) (V:=V) (t:=t) (y:=y) e a b c g,λf V t y a=>qig (V:=V) (t:=t) (y:=y) (dd:=d) a f,λ_ _ _ _=>b⟩
theorem Yf:(#[Value.int Y 0,C Y 0,C Y 0,C Y 0]).all (·.oneCell')=AP:=BF
theorem RN{R:Cu}:(CB R).all (·.oneCell')=AP:=Bq
theorem kh{R S:Cu}:(CB R).size=(CB S).size:=rfl
theorem q7e{g:Gt}(b:g.rc.size=40){fed:Aq}(a:A7 V L (Da g fed cl) 135):∀(j:I) (u:Aq),g.rc[j]?=H u->A6 V L (4+j) u:=by intro j u c;refine(Cb a (4+j)).trans ?_;grind [Da]
theorem km{N:I}{v:Aq}{cs cs':A3}(h:Ck W base v l)(j:A7 W N cs 82):Ck (AD W N cs') base v l:=by
 refine⟨⟨h.1.1,?_⟩,B2 h.2.1,h.2.2⟩;rcases h.1.2 with a|⟨g,b,c,a,d,i,f⟩
 .exact AF a
 refine AG ⟨g,b,c,a,d,(Dg _ _ _ _ (λe=>?_)).trans i,f⟩;grind
theorem q4D{g:Gt}(a:g.rc.size=40):(prog.info? 132).map (·.size)=H g.rc.size:=by rw[a];kernel_rfl
theorem qsg(X:I->Prop){k:I}{W:Ap}{g:Gt}(a6:g.rc.size=40){fed:Aq}(hg:A7 W L (Da g fed cl) 135)(t:AN)(y:Aq){R:Cu}{B:AJ J}(a5:g.bk=T ba (O B) bc)(ay:jM g.out B)(wp:kg g.out k d)(hI:∀V,E6 X W V->FH V ba B)(hT:∀V,E6 X W V->Kr (K (U V)) V)(cR:∀v,A0 W v->Ar As 107 #[.agg g.rc,Ai t y] v (Ye X (K (U W)) k v R d)):Ar As 76 #[A8 L,Ai t y] W (ke X W R (Lc g.out k d B)):=by
 have hL:=Cc hg;have F:=G a6;have az:Ar As 107 #[.agg g.rc,Ai t y] (Az W (M #[C Y 0,C Y 0,C Y 0,C Y 0] 82)) λe V'=>∃q r,e=Ak (Af #[Ai q r,.agg (CB R)])/\D (RM X W L (Da g fed cl) (K (U V')) k R q r d (Az V' (M (CB R) 82))):=(cR _ Cl).mono (by rintro e V' ⟨q,r,rfl,h1,h2⟩;grind [q7f]);have HI:=G hI;have HT:=G hT;have ao:=G ay;have ac:=G wp;have af:=G a5;have au:D ((Az W (M #[C Y 0,C Y 0,C Y 0,C Y 0] 82)).heap[L]?=H (M (Da g fed cl) 135)):=(Cx W _ _ hL).trans hg;go_enter func76,ntmps76
 go_wp2_with(first
  |(refine PT (.tmp 16) Z Z Z (q7e F au) underlying132 Z (q4D F) ?_)
  |fail)
 refine az.mono ?_;rintro e z ⟨q,r,rfl,b⟩;obtain⟨i,av⟩:=CA (Az z (M (CB R) 82));obtain⟨o,s⟩:=CA (K (U z));rw[AE av,AE s]at b;have ah:D ((Az z (M #[C Y 0,C Y 0,C Y 0,C Y 0] 82)).heap[o]?=H (M (CB (0,0,0,0)) 82)):=by show _=_;rw[<-AE s];exact Cj z
 have aj:D ((Az z (M #[C Y 0,C Y 0,C Y 0,C Y 0] 82)).setRow o (CB R)=i):=by grind [D,World.setRow_alloc_new]
 have c1:A6 i L 1 (C Y g.out):=(Cb b.gate 1).trans (PZ 1 E);by_cases x:g.out=1/\Fd k d=AP
 .have u:D (Lc g.out k d B=.error 13):=jX x;have P:=ac.kind x.2 i q r b.thg;rw[x.1]at c1
  go_wp2_with(first
   |(refine Db Z 82 _ _ Z o (CB R) (congrArg (λn=>Value.pointer (Aa n)) s) Z 82 _ ah (F2) Z (RN) ?_;rw[AE aj])
   |(go_at_call 44;refine P.mono ?_;rintro e j ⟨rfl,ad⟩;have h:=G (b.step ad))
   |(refine Db Z 82 _ _ Z (K (U W)) #[C Y 0,C Y 0,C Y 0,C Y 0] Z Z 82 _ h.res MI Z Yf ?_))
  refine CL (Yb results76 Z (CM _ _ _ _ _ _ h.res) underlying82 Z MI Z Z) Z ?_;rw[AE u];exact⟨Ao,0,0,Z,h.fr.set (Co _) _,Z⟩
 have ai:=G x;have ag:=G (ac.len _ _ _ b.thg);have P:=ac.ok i q r b.thg (λv hU=>HT.out v (b.fr.trans (E6.of_below hU))) x;obtain⟨ys,HY⟩:=CA (Ft g.out k d);rw[AE HY]at ag P;obtain⟨fr,aa⟩:=CA (IG g.out ys B)
 go_wp2_with(first
  |(refine Db Z 82 _ _ Z o (CB R) (congrArg (λn=>Value.pointer (Aa n)) s) Z 82 _ ah (F2) Z (RN) ?_;rw[AE aj])
  |(go_at_call 44;refine P.mono ?_;rintro e j ⟨v3,rfl,ak,ad⟩;obtain⟨a3,n3,k3,rfl⟩:=ak.2.2;have an:=G ad;have ap:=G ak))
 have ae:D (A0 i ({j with drawn:=j.drawn+1}:Ap)):=an.drew;have A:D (Ck ({j with drawn:=j.drawn+1}:Ap) (K (U i)) (T a3 n3 k3) ys):=AE ap;have h:=G (b.step ae);refine Dl (S:=λa=>A6 a L 1 (C Y g.out)/\A6 a L 44 (T ba (O B) bc)) (⟨(Cb h.gate 1).trans (PZ 1 E),((Cb h.gate 44).trans (Lb F 0)).trans (congrArg H af)⟩) B6 ?_;intro f;generalize({j with drawn:=j.drawn+1}:Ap)=w5 at *;have cF:=ao.out w5 (K (U i)) (T a3 n3 k3) ys ba bc A (HI w5 h.fr) ag;rw[AE aa]at cF;refine Ca 0 36 (A8 L) f ?_;refine Ca 1 37 (A8 L) f ?_;refine Ca 2 38 (A9 L 1) f ?_;refine Cf 3 39 (C Y g.out) Z (λa w=>?y3) f ?_
 case y3=>(have z1:=w.1;go_simp)
 refine Ca 4 40 (T a3 n3 k3) f ?_;refine Ca 5 41 (A8 L) f ?_;refine Ca 6 42 (A8 L) f ?_;refine Ca 7 43 (A9 L 44) f ?_;refine Cf 8 44 (T ba (O B) bc) Z (λa w=>?y8) f ?_
 case y8=>(have z1:=w.2;go_simp)
 refine CC 9 (λax hK=>?_);go_simp;refine cF.mono ?_;rintro e m ⟨⟨v4,rfl,a0,a1⟩,a2⟩;have c:=G (b.step (ae.trans a2));have aw:=G b.fr.rows.size;have p:(λa:Ap=>A6 a L 1 (C Y g.out)/\A6 a L 44 (T ba (O B) bc)) m:=⟨(Cb c.gate 1).trans (PZ 1 E),((Cb c.gate 44).trans (Lb F 0)).trans (congrArg H af)⟩
 simp only[];refine hK.out _ _ p (λ_=>?_);refine Ca 10 35 (Af #[v4,Ah fr.isSome]) p ?_;refine Ca 11 46 v4 p ?_;refine Ca 12 47 (Ah fr.isSome) p ?_;refine Ca 13 11 v4 p ?_;refine Ca 14 12 (Ah fr.isSome) p ?_;refine CG ?_;go_simp;obtain _|am:=fr
 .have u:=G (jY ai (by rw[AE HY];exact aa));obtain rfl:=a0 rfl;simp only[Uz]
  go_wp2_with(first
   |(refine Db Z 82 _ _ Z (K (U W)) #[C Y 0,C Y 0,C Y 0,C Y 0] Z Z 82 _ c.res MI Z Yf ?_))
  refine CL (Yb results76 Z (CM _ _ _ _ _ _ c.res) underlying82 Z MI Z Z) Z ?_;rw[AE u];exact⟨Ao,0,0,Z,c.fr.set (Co _) _,Z⟩
 have u:=G (jZ ai (by rw[AE HY];exact aa));have A:=G (a1 am Z);obtain⟨N,n4,l,rfl⟩:=A.2.2;simp only[YR]
 go_wp2_with fail
 refine Dl (S:=λa=>A7 a o (CB R) 82) (c.rep) B6 ?_;intro Q;have ar:=G c.fr.drew;have ab:D (({m with drawn:=m.drawn+1}:Ap).heap[K (U W)]?=H (M (CB (0,0,0,0)) 82)):=c.res;have aq:D (Ck {m with drawn:=m.drawn+1} (K (U W)) (T N n4 l) am):=(A).mono aw;have a7:=c.lt;generalize({m with drawn:=m.drawn+1}:Ap)=w6 at *;refine Ca 0 51 (T N n4 l) Q ?_;refine Cf 1 52 (.agg (CB R)) Z (λa w=>?y1) Q ?_
 case y1=>exact LG (.tmp 8) B6 (congrArg (λn=>Value.pointer (Aa n)) s) w underlying82 B6 (F2)
 refine Ca 2 4 (T N n4 l) Q ?_;refine CC 3 (λax hK=>?_);refine Kp B6 ?_;refine IW 82 (.tmp 5) (.tmp 52) Z (K (U W)) (CB R) B6 B6 82 (CB (0,0,0,0)) ab (F2) (kh) (RN) ?_;have al:(λa:Ap=>A7 a o (CB R) 82) (AD w6 (K (U W)) (CB R)):=sx E Q;refine hK.out _ _ al (λ_=>?_);refine Ca 4 6 (C Y 0) al ?_;refine CG ?_;go_simp
 go_wp2_with fail
 refine CL (Yb results76 Z (CM _ _ _ _ _ _ ab) underlying82 Z (F2) Z Z) Z ?_;rw[AE u];exact⟨N,n4,l,Z,ar.set (Co _) _,km aq ab⟩
def G7:Gt:=⟨0,0,0,0,Di 0 (λ_ _=>AQ)++#[Ab Al 0,Ab Al 0,Ad Ao],Ac Ao 0 0⟩
theorem Ul:G7.rc.size=40:=B6
theorem Yg{g:Gt}(a:g.rc.size=40){fed:Aq}:(Da g fed cl).size=47:=by unfold Da;simp[a]
theorem qoK{ρ:Operand->Aq}(a:o.op=.alloc 135):(execOp ρ o).run As w=.ok (.value (A8 (K (U w)))) (Az w (M (Da G7 (T Ao 0 0) AQ) 135)):=BG
theorem ko{rest:AJ Oper}{a:Act}{Q:Exit->Act->X->Prop}(e:o.guard=Ao)(f:o.op=.alloc 135){d:Option Tmp}(c:o.dst=d)(N:I)(b:K (U w)=N)(h:wpList As ops Q rest (a.put d (A8 N)) (Az w (M (Da G7 (T Ao 0 0) AQ) 135))):wpList As ops Q (o::rest) a w:=by subst b;exact Qd e d c _ _ (qoK f) h
theorem quB:prog.built 135 [(6,Ah AP)]=H (Da G7 (T Ao 0 0) AP):=B6
theorem Q0{A:A3}(h:A.size=47):(prog.info? 135).map (·.size)=H A.size:=C8
abbrev Cz:=AS (AI×AI) (Cu×AS AI A1)
def Q1(z:Cz):Cu:=match z with
 |.ok (R,r)=>Yc R r
 |.error _=>(0,0,0,0)
def OT(z:Cz):AI:=match z with
 |.ok (_,r)=>Yd r
 |.error (en,_)=>en
def Q2(z:Cz):AI:=match z with
 |.ok _=>0
 |.error (_,pl)=>pl
def Um(V:Ap)(base:AH)(v:Aq)(z:Cz):Prop:=match z with
 |.ok (_,r)=>NH V base v r
 |.error _=>v=Ac Ao 0 0
def Gu(W:Ap)(L:AH)(g:Gt)(fv:Aq):Ap:=(Az (Az W (Aj #[Ab Al 0,Ab Al 0,Ab Al 0,Ab Al 0] 82)) (Aj (Da g fv AQ) 135)).setRow L (Da G7 (Ac Ao 0 0) AP)
structure NI(X:Nat->Prop)(L:Nat)(W V:World):Prop where
 world:V.os=W.os/\V.tape=W.tape/\V.output=W.output
 size:W.heap.size<=V.heap.size
 rows:∀(k:Nat) (cs:A3) (t:TypeId) (fr:Nat×Nat),k≠L->W.heap[k]?=some (.cells cs t fr)->t≠187->t≠203->t≠264->V.heap[k]?=some (.cells cs t fr)
 block:∀j,j<W.heap.size->j≠L->X j->V.heap[j]?=W.heap[j]?
theorem NI.set{X:I->Prop}{W V:Ap}(h:NI X L W V){g:I}(f:K (U W)<=g)(cs:A3):NI X L W (AD V g cs) :=
 ⟨h.world,B2 h.size,λk cs t fr a b c d e=>(Dg _ _ _ _ (AY (Cc b))).trans (h.rows k cs t fr a b c d e),λj a b c=>sx E (h.block j a b c)⟩
def q44(X:AH->Prop)(W:Ap)(L:AH)(z:Cz)(e:Ending)(V':Ap):Prop :=
 ∃va vn vc,e=Ak (Af #[Ac va vn vc,.agg (CB (Q1 z)),Ab Al (OT z),Ab Al (Q2 z)])/\NI X L W V'/\V'.heap[L]?=An (Aj (Da G7 (Ac Ao 0 0) AP) 135)/\Um V' (Au (Av W)) (Ac va vn vc) z
theorem Un{g:Gt}(a:Aq):K (U (Gu W L g a))=K (U W)+2:=by simp[Gu]
theorem q3r{g:Gt}{fv:Aq}(a:L<K (U W)):(Gu W L g fv).heap[K (U W)]?=H (M (CB (0,0,0,0)) 82):=sx E ((Cx _ _ _ Ba).trans (Cj W))
theorem kq{g:Gt}(a:Aq)(b:L<K (U W)):(Gu W L g a).heap[K (U W)+1]?=H (M (Da g a AQ) 135):=by have h:=Cj (Az W (M #[C Y 0,C Y 0,C Y 0,C Y 0] 82)) (o:=(M (Da g a AQ) 135));rw[CI]at h;exact sx E h
theorem qyH{g:Gt}{fv:Aq}(a:A7 W L (Da g fv AQ) 135):(Gu W L g fv).heap[L]?=H (M (Da G7 (T Ao 0 0) AP) 135):=by have b:=Cc a;exact CM _ _ _ _ _ _ ((Cx _ _ _ kfb).trans ((Cx _ _ _ b).trans a))
theorem Yh{g:Gt}{fv:Aq}(a:j<K (U W))(b:j≠L):(Gu W L g fv).heap[j]?=W.heap[j]?:=(Dg _ _ _ _ b).trans ((Cx _ _ _ kfb).trans (Cx _ _ _ a))
theorem qvz{g:Gt}{fv:Aq}:(Gu W L g fv).os=W.os/\(Gu W L g fv).tape=W.tape/\(Gu W L g fv).output=W.output:=⟨rfl,rfl,rfl⟩
theorem NI.of{X:I->Prop}{W:Ap}{g:Gt}{fv:Aq}{V:Ap}(h:E6 X (Gu W L g fv) V):NI X L W V:=by
 have i:=h.rows.size;rw[Un]at i;refine⟨h.world,E,λk cs t fr a b c d e=>?_,λj a b c=>?_⟩
 .have f:=Cc b;exact h.rows.row k cs t fr ((Yh f a).trans b) c d e
 exact(h.block j (by rw[Un];omega) c).trans (Yh a b)
structure ku(X:Nat->Prop)(W W3:World)(L N11:Nat)(R:Cu)(v:Value)(r:Except Int A1)(V:World):Prop where
 fr:E6 X W3 V
 res:V.heap[W.heap.size]?=some (.cells (CB (0,0,0,0)) 82)
 rep:V.heap[N11]?=some (.cells (CB R) 82)
 lt:W.heap.size<N11
 gate:V.heap[L]?=some (.cells (Da G7 (.slice none 0 0) true) 135)
 val:NH V W.heap.size v r
theorem NH.same{V':X}{b':I}{v:Aq}(h:NH V b v r)(a:∀l,Ck V b v l->Ck V' b' v l):NH V' b' v r:=by
 obtain e|l:=r
 .exact h
 exact a l h
theorem q6G{X:I->Prop}{W W3 U:Ap}{R:Cu}{v:Aq}(e:K (Av W)<K (Av U))(b:E6 X W3 U)(hF:E6 X U V')(c:A7 U (K (Av W)) (CB (0,0,0,0)) 82)(a:A7 U L (Da G7 (T Ao 0 0) AP) 135)(d:NH V' (K (Av U)) v r):ku X W W3 L (K (Av V')) R v r (Az V' (M (CB R) 82)):=by have f:=hF.rows.size;exact⟨(b.trans hF).alloc _,(Cx _ _ _ E).trans (hF.rows.row _ _ _ _ c B8 B8 B8),Cj V',E,(Cx _ _ _ (AY (Cc a))).trans (hF.rows.row _ _ _ _ a B8 B8 B8),d.same λl h=>Nf (h.mono E) Cl⟩
def Q3(c:CD)(A:AH)(bv:Aq):A3:=#[Ab Al c.inn,Ab Al c.out,Ab Al c.depth,Ab Al c.bytes]++(Di c.labels.toNat (DY c.labels.toNat c.L)++#[Ab Al c.clr,Ab Al c.key,A8 A])++#[bv,Ac Ao 0 0,Ah AQ]
def Gv(c:CD):AJ (AJ (AH×A1)×AI×AI):=(EN c.pol.data.toList).map DX
theorem qsU{a:A4}{B:AJ J}(h:FH w a B)(t:a=Ao->O B=0/\cap=0)(z:O B<=8):Ar As 58 #[T a (O B) cap] w λe c=>∃d f,e=Ak (T d (O B) f)/\DH c 3 1 (λg=>K (U w)<=g/\g<K (U c)) (T d (O B) f) (O B) (B.map (Value.int Y))/\A0 w c:=by
 have N:∀{c:X} {v:Aq} {n:I} {l:AJ Aq},c.ownsRow (K (U w)) 3 1 v n l->∃d f,v=T d n f/\DH c 3 1 (λg=>K (U w)<=g/\g<K (U c)) (T d n f) n l:=by
  rintro c v n l ⟨m,s⟩;rcases s with⟨rfl,rfl⟩|⟨g,cap,q,rfl,u,o,x⟩
  .exact⟨Ao,0,Z,m,AF ⟨Z,Z⟩⟩
  exact⟨_,_,Z,m,AG ⟨g,cap,q,Z,⟨u,(Cc o)⟩,o,x⟩⟩
 obtain _|p:=a
 .obtain⟨i,y⟩:=t rfl;refine(Tryz.slices_Clone_int_nil (O B) cap w).mono ?_;rintro e c ⟨rfl,rfl⟩;have k:=Q7 i;subst k;exact⟨Ao,0,Z,⟨Z,AF ⟨Z,Z⟩⟩,Cq _ _⟩
 by_cases r:O B=0
 .have k:=Q7 r;subst k;refine(Tryz.slices_Clone_int_zero p cap w).mono ?_;grind
 obtain⟨b,off,i,L,A⟩:=h.at_ 0 E;injection i with i;subst i;refine(Tryz.slices_Clone_int b off (O B) cap B w (Co _) E (λj F=>?_)).mono ?_
 .grind
 grind
structure NJ(c:CD)(W0:World)(L A:Nat)(q:D5)(sts:List ((Nat->Nat)×Int×Int))(sa:A4)(sc:Nat)(nf mf:Lit->Option Nat)(bv:Value)(V:World):Prop where
 cp:ja W0 (Gv c) c.dflt A q sts sa sc nf mf V
 bk:DH V 3 1 (λg=>W0.heap.size<=g/\g<L) bv c.B.length (c.B.map (Value.int .i64))
 bs:∃ba bc,bv=.slice ba c.B.length bc
def kw(c:CD)(w:Ap)(e:Ending)(w':Ap):Prop :=
 A0 w w'/\((¬Df c=0/\e=Ak (Af #[Ad Ao,Ab Al (Df c)]))\/(Df c=0/\∃W0 L A q sts sa sc nf mf bv,e=Ak (Af #[A8 L,Ab Al 0])/\Au (Av w)<=Au (Av W0)/\Au (Av W0)<=L/\Au (Av w')=L+1/\w'.heap[L]?=An (Aj (Q3 c A bv) 135)/\(∃lo rc,Au (Av w)<=lo/\Ku W0 lo (Ac q.ra (At (Gv c)) rc) (Gv c))/\NJ c W0 L A q sts sa sc nf mf bv w'))
theorem q7H{A:A3}{O:A3}{a:A4}{k:I}(h:A=JF O a k cap)(d:O.size=37):∀(j:I) (u:Aq),O[j]?=H u->A[j]?=H u:=by intro j u b;have c:j<37:=AY (Cc b);rw[h];unfold JF;rw[YM,Ci E];exact b
theorem q4U{n:I}{m:I->I->AK}:(prog.info? 123).map (·.size)=H (Di n m).size:=by rw[D8];kernel_rfl
theorem qyy(hc:Gz w c)(r:Jg w)(a9:Df c=0->O c.B<=8):Ar As 26 #[.agg c.arr] w (kw c w):=by
 have HS:=G c.size;have HC:=G hc;have ag:=G a9;have z:=G (iH w c);have cR:=zg (z.cfg hc) (r.below z.below);have g:=G (XF c);go_enter func26,ntmps26
 go_wp2_with(first
  |(refine CT Z 40 _ Z _ Z _ _ _ _ z.box underlying40 Z (Ec HS) ?_)
  |fail)
 refine cR.mono ?_;rintro al f ⟨A,rfl,q,a7⟩;rw[g.1,g.2];have ae:=G q.1;have af:=G q.2.1;have HZ:D (Gm.size=A.size):=by grind [RD]
 have F:=G (z.step a7);have y:D (Uj w c (K (U f)) A (Az f (M A 126))):=⟨F.below.alloc F.below.size _,(Cx _ _ _ (Cc F.box)).trans F.box,Cj _⟩
 have e:=q.2.2;rw[g.1]at e;by_cases m:Df c=0
 .obtain⟨_,v,sk,x,u,lo,ap,ab⟩:=e m;obtain⟨ra,rc,bf,ao⟩:=ab.pru;injection bf with e1 e2 e3;subst e1;subst e2;subst e3;have a6:A[37]?=H (T v (O (Gv c)) x):=by rw[u];unfold JF;rw[YM,D8];rfl
  have bi:=G (q7H u (D8));have ai:D (K (U w)<=lo/\Ku { (Az f (M A 126))with drawn:=(Az f (M A 126)).drawn+1} lo (T v (O (Gv c)) x) (Gv c)):=⟨Cy Ba ap,ab.kept λbj _ h=>Cx _ _ _ h⟩
  have az:D (J6 (Az f (M A 126)) v (Gv c)):=ao.below Cl;have a3:=XP (Uk m);have aw:=G (ag m);have aq:=G m;clear u e ab ao ag ap;rw[m];obtain⟨hn,h8,bd⟩:=a3;have ax:D (O (Gv c)<=16):=hn;have H8:D (∀i (h:i<O (Gv c)),(Gv c)[i].1.length<=8):=h8;have av:D (∀i (h:i<O (Gv c)) j (h2:j<(Gv c)[i].1.length),(Gv c)[i].1[j].1<=3/\(Gv c)[i].1[j].2.length<=1000000000):=bd
  go_wp2_with(first
   |(refine XD Z Z Z (K (U f)) Z ?_)
   |(refine Db Z 126 _ _ Z (K (U f)) A Z Z 126 Gm (Cj f) (PU ae) HZ af ?_;rw[IT]))
  have d:(λa:X=>A7 a (K (U w)) c.arr 40/\A7 a (K (U f)) A 126) { (Az f (M A 126))with drawn:=(Az f (M A 126)).drawn+1}:=⟨y.box,y.row⟩
  refine Ef (S:=λa=>A7 a (K (U w)) c.arr 40/\A7 a (K (U f)) A 126) B6 ?_;have V:D (A0 w { (Az f (M A 126))with drawn:=(Az f (M A 126)).drawn+1}):=y.below.drew;have a0:D (J6 { (Az f (M A 126))with drawn:=(Az f (M A 126)).drawn+1} v (Gv c)):=az.below (Cq _ _).drew;generalize({ (Az f (M A 126))with drawn:=(Az f (M A 126)).drawn+1}:X)=W4 at *;generalize K (U f)=N4 at *;have ay:D (∀a:X,A7 a N4 A 126->∀(j:I) (ad:Aq),(Di c.labels.toNat (DY c.labels.toNat c.L))[j]?=H ad->A6 a N4 (0+j) ad):=λa k j ad hu=>by grind [D,Cb]
  refine Ca 0 16 (A9 (K (U w)) 6) d ?_;refine Cf 1 17 (C Y c.inn) Z (λa k=>?y1) d ?_
  case y1=>(have l:A6 a (K (U w)) 6 (C Y c.inn):=Cb k.1 6;go_simp)
  refine Ca 2 18 (A9 (K (U w)) 7) d ?_;refine Cf 3 19 (C Y c.out) Z (λa k=>?y3) d ?_
  case y3=>(have l:A6 a (K (U w)) 7 (C Y c.out):=Cb k.1 7;go_simp)
  refine Ca 4 20 (A9 (K (U w)) 8) d ?_;refine Cf 5 21 (C Y c.depth) Z (λa k=>?y5) d ?_
  case y5=>(have l:A6 a (K (U w)) 8 (C Y c.depth):=Cb k.1 8;go_simp)
  refine Ca 6 22 (A9 (K (U w)) 9) d ?_;refine Cf 7 23 (C Y c.bytes) Z (λa k=>?y7) d ?_
  case y7=>(have l:A6 a (K (U w)) 9 (C Y c.bytes):=Cb k.1 9;go_simp)
  refine Ca 8 24 (Ag #[C Y c.depth,C Y c.bytes]) d ?_;refine Ca 9 25 (A8 N4) d ?_;refine Cf 10 26 (.agg (Di c.labels.toNat (DY c.labels.toNat c.L))) Z (λa k=>?y10) d ?_
  case y10=>exact Nz (.tmp 25) B6 B6 (ay a k.2) underlying123 B6 (q4U)
  refine Ca 11 27 (A9 (K (U w)) 4) d ?_;refine Cf 12 28 (C Y c.clr) Z (λa k=>?y12) d ?_
  case y12=>(have l:A6 a (K (U w)) 4 (C Y c.clr):=Cb k.1 4;go_simp)
  refine Ca 13 29 (A9 (K (U w)) 5) d ?_;refine Cf 14 30 (C Y c.key) Z (λa k=>?y14) d ?_
  case y14=>(have l:A6 a (K (U w)) 5 (C Y c.key):=Cb k.1 5;go_simp)
  refine Ca 15 31 (A9 N4 37) d ?_;refine Cf 16 32 (T v (O (Gv c)) x) Z (λa k=>?y16) d ?_
  case y16=>(have l:=(Cb k.2 37).trans a6;go_simp)
  refine Ca 17 33 (A9 (K (U w)) 2) d ?_;refine Cf 18 34 (C Y c.dflt) Z (λa k=>?y18) d ?_
  case y18=>(have l:A6 a (K (U w)) 2 (C Y c.dflt):=Cb k.1 2;go_simp)
  refine Ca 21 37 (A9 (K (U w)) 10) d ?_;refine Cf 22 38 (T c.ba (O c.B) c.bcap) Z (λa k=>?y22) d ?_
  case y22=>(have l:A6 a (K (U w)) 10 (T c.ba (O c.B) c.bcap):=Cb k.1 10;go_simp)
  refine CC 19 (λak t=>?_);go_simp;refine(qpt x c.dflt a0 ax H8 av).mono ?_;rintro al w5 ⟨s,bg,bh,ta,tc,nf,mf,rfl,be,an⟩;have a1:=G be;simp only[];have R:=an.au.below;have ah:=G an;have W:=G (V.trans (R.mono V.size));have o:(λa:X=>A7 a (K (U w)) c.arr 40/\A7 a N4 A 126) w5:=⟨(R.block _ (Cc d.1)).trans d.1,(R.block _ (Cc d.2)).trans d.2⟩
  have a4:=G V.size;have aj:=G R.size;refine t.out _ _ o (λ_=>?_);refine Ca 20 36 (.agg (Di c.labels.toNat (DY c.labels.toNat c.L)++#[C Y c.clr,C Y c.key,A8 s])) o ?_;refine CC 23 (λak t=>?_);go_simp;refine(qsU ((HC.below W).ints) HC.bn aw).mono ?_;rintro al n ⟨P,Q,rfl,bb,aa⟩;simp only[];have p:(λa:X=>A7 a (K (U w)) c.arr 40/\A7 a N4 A 126) n:=⟨(aa.block _ (Cc o.1)).trans o.1,(aa.block _ (Cc o.2)).trans o.2⟩
  have a2:=G bb;have b:=G aa;refine t.out _ _ p (λ_=>?_);refine Ca 24 40 (.agg (Q3 c s (T P (O c.B) Q))) p ?_;refine CC 25 (λak t=>?_);go_simp;have ac:(λa:X=>A7 a (K (U w)) c.arr 40/\A7 a N4 A 126) (Az n (M (Q3 c s (T P (O c.B) Q)) 135)):=⟨(Cx _ _ _ (Cc p.1)).trans p.1,(Cx _ _ _ (Cc p.2)).trans p.2⟩
  refine t.out _ _ ac (λ_=>?_);refine Ca 26 2 (A8 (K (U n))) ac ?_;refine Ca 27 3 (C Y 0) ac ?_;refine CG ?_;go_simp;go_wp2
  go_ret2
  have a8:A0 n (Az n (M (Q3 c s (T P (O c.B) Q)) 135)):=Cl;have am:=b.trans (a8.mono b.size);refine⟨W.trans (am.mono W.size),AG ⟨aq,W4,K (U n),s,bg,bh,ta,tc,nf,mf,T P (O c.B) Q,Z,a4,Cy aj b.size,CI _ _,Cj n,⟨lo,x,ai.1,by rw[AE a1];exact ai.2⟩,⟨{AE ah with au:=ah.au.next am},?_,_,_,rfl⟩⟩⟩;exact a2.same (λa5 r=>⟨Cy aj r.1,r.2⟩) (λa5 r=>Cx _ _ _ r.2)
 have HE:=G m;have ar:D (kw c w (Ak (Af #[Ad Ao,C Y (Df c)])) (Az f (M A 126))):=⟨y.below,AF ⟨m,Z⟩⟩
 generalize Df c=E at *;generalize Ew c=N at *;have hE:(E==0)=AQ:=by simpa using HE.out
 go_wp2_with(first
  |(refine XD Z Z Z (K (U f)) Z ?_)
  |(refine Db Z 126 _ _ Z (K (U f)) A Z Z 126 Gm (Cj f) (PU ae) HZ af ?_;rw[IT]))
 go_ret2
 exact ar
end
section
open Go.RowKit
theorem E5.same{kt:AN}{m n:I}{f:Lit->Option I}(h:E5 W kt m n f)(i:W'.heap[m]?=W.heap[m]?):E5 W' kt m n f:=by obtain⟨a,⟨c,b,d,e⟩,g⟩:=h;exact⟨a,⟨c,b,i.trans d,e⟩,g⟩
theorem DB.rebase{W1:X}(h:DB W0 A q sts sv nf mn mf W)(b:K (U W1)=K (U W0))(hb:A0 W1 W')(d:J6 W1 q.ra q.rs)(a:∀j,j=A\/j=q.lm\/j=q.tb\/j=q.nb\/j=q.mb\/Ax sv=H j->W'.heap[j]?=W.heap[j]?):DB W1 A q sts sv nf mn mf W':=by
 obtain⟨c,i,k⟩:=h.takes;have f:=PQ h.states λg e=>a g (AG (AG (AG (AG (AG e)))));exact{h with
  row:=(a A (AF rfl)).trans h.row
  rules:=d
  below:=hb
  letters:=h.letters.same (a _ (AG (AF rfl)))
  takes:=⟨c,(a _ (AG (AG (AF rfl)))).trans i,k⟩
  states:=by rw[b];exact f
  numbers:=h.numbers.same (a _ (AG (AG (AG (AF rfl)))))
  moves:=h.moves.same (a _ (AG (AG (AG (AG (AF rfl))))))
  high:=by rw[b];exact h.high}
def NK(W:Ap)(n:AH):Ap:={W with heap:=W.heap.extract 0 n}
theorem ky{n:I}(h:n<=K (U W)):K (U (NK W n))=n:=by simp[NK];omega
theorem qss{n:I}(h:n<=K (U W)):Below (K (U (NK W n))) (NK W n) W:=by refine⟨rfl,rfl,rfl,by grind [ky],λk a=>?_⟩;grind [NK]
end
section
theorem Yi{dflt:J}{n:I}(a:∃l:I,dflt=l/\l<n):∀(rs:AJ (AJ (I×A1)×J×J)),(∀x∈rs,∃l:I,x.2.1=l/\l<n)->∀p,∃l:I,(DC dflt rs p).1=l/\l<n
 |[],_,_=>a
 |x::rs,hr,p=>by
  rw[DC];split
  .grind [List.mem_cons_self]
  exact Yi a rs (λy b=>hr y (Le _ b)) p
end
section
open Go.RowKit Go.Lib
structure Ld(c:CD):Prop where
 lab:1<=c.labels/\c.labels<=6
 dfl:0<=c.dflt/\c.dflt<(c.labels.toNat:Int)
 clr:0<=c.clr/\c.clr<(c.labels.toNat:Int)
 inn:c.inn=1\/c.inn=2\/c.inn=3
 out:c.out=1\/c.out=2\/c.out=3
 dep:1<=c.depth/\c.depth<=16
 byt:1<=c.bytes/\c.bytes<=4096
 b8:c.B.length<=8
 b6:∀i (h:i<c.B.length),c.B[i]<=65536
 pol:F1 c.labels.toNat c.pol.data.toList=0
theorem LP(h:Df c=0):Ld c:=by
 have k:=Uk h;rw[<-(XF c).1]at h;unfold GI at h;split at h
 .omega
 next hh =>
 have g:=YA hh;split at h
 .cases h
 next a =>
 split at h
 .cases h
 next d =>
 have a:FR c.inn c.out c.depth c.bytes=AP:=Bl;have d:Ho c.B=AP:=BX;unfold FP at g;split at g
 .next hn =>
  simp only[F3]at hn;obtain⟨⟨b,e⟩,f⟩:=hn;unfold EV at b;rw[F3]at b;have b:=Dk b.1;have e:=Dk e;have f:=Dk f;unfold FR at a;simp only[F3,UG]at a;unfold Ho at d;rw[F3]at d;refine⟨⟨b.1,b.2.1⟩,e,f,jj a.1.1.1.1.1,jj a.1.1.1.1.2,⟨a.1.1.1.2,a.1.1.2⟩,⟨a.1.2,a.2⟩,Dk d.1,λi j=>?_,k⟩;have:=Dk (GN.1 d.2 i (Hn.2 j));grind
 cases g
theorem kz{n:I}(h:F1 n l=0):∀x∈(EN l).map DX,∃m:I,x.2.1=(m:J)/\m<n:=by
 have f:DU n l<0:=kfh;intro x j;obtain⟨r,g,rfl⟩:=KI.1 j;unfold DU at f;unfold EN at g;split at f
 .omega
 split at f
 .grind
 next h0 =>
 rw[Ci h0]at g;obtain⟨i,_⟩:=XO (D0 10 l) 0 f E;obtain⟨y,k,rfl⟩:=KI.1 g;have e:=i y k;unfold De at e;show∃m:I,(D6 y).2.1=(m:J)/\m<n;unfold D6
 match hs:D0 32 y,e with
 |[a,b,c],e =>
  unfold Ny at e;simp only[F3]at e;have e:=e.2.1
  match b,e with
  |[d],e =>
   unfold Iv at e;rw[F3]at e;have o:=Dk e.1;have p:=Dk e.2;refine⟨d.toNat-48,?_,E⟩;show(if 48<=d.toNat/\d.toNat<=57 then(d.toNat:J)-48 else 0)=_;omega
structure Ic(b:Nat)(W:World):Prop where
 rd:Lx W
 st:Kr b W
 db:W.cell? ⟨8,15,none⟩=some (.int .u8 4)
 gl:Jg W
 big:9<=b/\b<=W.heap.size
theorem K6(a:∀q,q<9->V.heap[q]?=W.heap[q]?){q off:I}{v:Aq}(b:q<9)(h:A6 W q off v):A6 V q off v:=(JN (w:=W) (a q b)).trans h
theorem U8.low(a:∀q,q<9->V.heap[q]?=W.heap[q]?)(h:U8 W):U8 V :=
 ⟨λc d=>K6 a B8 (h.1 c d),λi b=>⟨K6 a B8 (h.2 i b).1,K6 a B8 (h.2 i b).2⟩⟩
theorem Ic.below(h:Ic b W)(hb:Below b W V):Ic b V:=by
 have a:∀q,q<9->V.heap[q]?=W.heap[q]?:=λq f=>hb.block q (AY h.big.1);have g:=hb.size;refine⟨⟨h.rd.u8.low a,⟨λu c=>K6 a B8 (h.rd.hd.cb u c),λu c=>⟨K6 a B8 (h.rd.hd.pk u c).1,K6 a B8 (h.rd.hd.pk u c).2.1,K6 a B8 (h.rd.hd.pk u c).2.2⟩⟩,?_⟩,h.st.on hb,K6 a B8 h.db,?_,h.big.1,?_⟩
 .have:=h.rd.big;omega
 .obtain⟨t,fr,d⟩:=h.gl.signs;obtain⟨m,e⟩:=h.gl.mlen;exact⟨⟨t,fr,(a _ B8).trans d⟩,U8.low a h.gl.tabs,m,K6 a B8 e⟩
 have:=h.big.2;omega
theorem Ic.up(h:Ic b W)(hb:Below b W V):Kr (K (U V)) V:=λc a=>h.st c (hb.trans (a.mono (B3 h.big.2 hb.size)))
def G8(c:CD):Rv:=⟨Gv c,c.dflt,DY c.labels.toNat c.L,c.clr.toNat,c.key⟩
def kC(c:CD):AH:=c.depth.toNat+1
def MJ(c:CD)(A:AH):A3:=Di c.labels.toNat (DY c.labels.toNat c.L)++#[Ab Al c.clr,Ab Al c.key,A8 A]
def Ky(c:CD)(A:AH)(bv:Aq):Gt:=⟨c.inn,c.out,c.depth,c.bytes.toNat,MJ c A,bv⟩
theorem Yj(c:CD)(A:I):(MJ c A).size=40:=by grind [MJ,D8]
theorem q2R(ck:Ld c)(A:I)(a:Aq):Q3 c A a=Da (Ky c A a) (T Ao 0 0) AQ:=by have h:((c.bytes.toNat:I):J)=c.bytes:=OW kdZ;grind [Q3,Da,Ky,MJ]
def Xc(A:AH)(q:D5)(own0:Option AH)(j:AH):Prop:=j≠A/\j≠q.nb/\j≠q.mb/\An j≠own0
theorem q3P(ck:Ld c){U:X}(h:NJ c W0 L A q sts sa sc nf mf bv V)(g:Ic b W0)(f:K (Av W0)<=K (Av U))(i:Option I):IE ⟨G8 c,W0,A,q,K (Av U)+2,Di c.labels.toNat (DY c.labels.toNat c.L),c.labels.toNat,U,i⟩:=by
 obtain⟨a,d,e⟩:=XP ck.pol;refine⟨h.cp.ers,h.cp.edf,h.cp.elf,h.cp.eL,h.cp.ly,a,d,e,Ii _ _,?_,?_,?_,Cy f (Z4 _ _),Z4 _ _,g.db⟩
 .show c.labels.toNat<=6;have:=ck.lab;omega
 .show c.clr.toNat<c.labels.toNat;have:=ck.clr;omega
 refine Yi ⟨c.dflt.toNat,?_,?_⟩ (Gv c) (kz ck.pol)
 .show c.dflt=_;have:=ck.dfl;omega
 show c.dflt.toNat<c.labels.toNat;have:=ck.dfl;omega
theorem qxN(ck:Ld c){D:A2->Prop}(w:∀r:Rc,IE r->r.v=G8 c->Ua D r (kC c) []){U:X}(h:NJ c W0 L A q sts sa sc nf mf bv V)(N:Ic b W0)(k:A0 V U)(s:Cv (kC c) V (λj=>j<K (Av V)) (Ai t y) d)(ac:DA (kC c) d<=2000000)(p:D d):Ar As 107 #[.agg (MJ c A),Ai t y] U (Ye (Xc A q (Ax (AX sa (O sts) sc))) (K (Av V)) (kC c) U (CW (G8 c) (kC c) [] d (0,0,0,0)).2 ((CW (G8 c) (kC c) [] d (0,0,0,0)).1.getD .nil)):=by
 have f:=h.cp.au.next k
 have z:=f.below.size;have ok:=q3P (U:=U) ck h N z (Ax (AX sa (O sts) sc));have u:=(XP ck.pol).1;have B:IF ⟨G8 c,W0,A,q,K (Av U)+2,Di c.labels.toNat (DY c.labels.toNat c.L),c.labels.toNat,U,Ax (AX sa (O sts) sc)⟩ sts 0 []:=by
  obtain⟨x,W,l,i,m⟩:=h.cp.first
  exact⟨x,l,j0 (zU h.cp.ly i) u m⟩
 have ab:=U5 (kC c) d;have aa:=U4 (kC c) d;have n:=qup ok Z Z Z (w _ ok Z) (F:=(λj=>j<K (Av V))) p f h.cp.mv (Co _) h.cp.few Z B (λj g=>CK g k.size) (s.same (λ_ g=>g) (λj g=>k.block j g)) E E;have o:Ib ⟨G8 c,W0,A,q,K (Av U)+2,Di c.labels.toNat (DY c.labels.toNat c.L),c.labels.toNat,U,Ax (AX sa (O sts) sc)⟩=MJ c A:=by have e2:=OW ck.clr.1;grind [Ib,MJ,G8]
 rw[o]at n;refine n.mono ?_;rintro e S ⟨Q,R,rfl,l,i,m,P⟩;refine⟨Q,R,Z,⟨⟨i.os.trans f.below.os.symm,i.tape.trans f.below.tape.symm,i.output.trans f.below.output.symm⟩,l,λj a b=>m j a b.1 b.2.1 b.2.2.1 b.2.2.2⟩,P⟩
theorem q0P(ck:Ld c){U:X}(h:NJ c W0 L A q sts sa sc nf mf bv V)(i:Ic b W0)(a:A0 V U)(e:Cv (kC c) V (λj=>j<K (Av V)) (Ai t y) d)(g:DA (kC c) d<=2000000):Ar As 107 #[.agg (MJ c A),Ai t y] U (Ye (Xc A q (Ax (AX sa (O sts) sc))) (K (Av V)) (kC c) U (CW (G8 c) (kC c) [] d (0,0,0,0)).2 ((CW (G8 c) (kC c) [] d (0,0,0,0)).1.getD .nil)):=qxN ck (D:=λ_=>True) (λr ok _ V F x d f R N sts _=>jz (c:=r) ok (kC c) V F x d [] f R N sts) h i a e g trivial
theorem qyM{F:I->Prop}{B:AJ J}(h:DH W 3 1 F (T ba (O B) bc) (O B) (B.map (Value.int Y))):FH W ba B:=by
 refine⟨λi n=>?_⟩;rcases h.2 with⟨_,f⟩|⟨g,d,b,e,_,a,k,l,m,c⟩
 .omega
 injection e with e1 _ _;refine⟨g,0,e1,(Cc a),λj o=>?_⟩;rw[Gw];refine(Cb a j).trans ?_;have p:(b.toList.take (O B*1))[j]?=(B.map (Value.int Y))[j]?:=by rw[c]
 grind
def Id(c:CD)(l:A1):Cz:=match DN c.inn l c.depth c.bytes with
 |.error e=>.error e
 |.ok d=>.ok ((CW (G8 c) (kC c) [] d (0,0,0,0)).2,Lc c.out (kC c) ((CW (G8 c) (kC c) [] d (0,0,0,0)).1.getD .nil) c.B)
theorem q4u(a:arr.size=11)(x:AK):Ay (DF arr all cl) 12 (Ah x)=DF arr all x:=by unfold DF;apply P7;have h:O arr.toList=11:=Bl;rw[Q8,Qe,Yx _ _ E,h,Qe];rfl
theorem qwq(c:CD)(a:A4)(n m:I):prog.built 158 [(0,.agg c.arr),(1,T a n m)]=H (c.arr++#[T a n m,C Y 0,C Y 0,C Y 0,C Y 0]):=B6
theorem q2m(a:arr.size=11){x:Aq}{R:Cu}(b:(CB R)[j]?=H u):(arr++#[x,C Y R.1,C Y R.2.1,C Y R.2.2.1,C Y R.2.2.2])[12+j]?=H u:=by rw[MM E,a,show 12+j-11=j+1 by omega];simpa[CB]using b
def MK(z:Cz):A1:=match z with
 |.ok (_,.ok l)=>l
 |_=>[]
theorem qrZ{G:I}(ck:Ld c)(hG:W.heap[G]?=H (M (DF c.arr all AQ) 72))(hb:O all<=200000000)(bx:∀V,Cg G W V->FH V c.ba c.B/\Ar As 64 #[.agg c.arr] V λe w'=>∃ci c3 cm x,e=Ak (Af #[T ci c3 cm,C Y x])/\A0 V w'/\∀ch,K (U w')<=ch->MG ⟨G8 c,w',ch,c.arr,ci,c3,cm⟩):Ar As 39 #[Ad (H ⟨G,0,Ao⟩)] W λe W'=>e=Ak (Af #[Ae ⟨Aw (MK (Id c all))⟩,.agg (CB (Q1 (Id c all))),C Y (OT (Id c all)),C Y (Q2 (Id c all))])/\Cg G W W'/\W'.heap[G]?=H (M (DF c.arr all AP) 72):=by
 have dw:=ck.dep;have cu:=ck.byt;have hs:c.arr.size=11:=rfl;have cq:=Cc hG;have bp:(Az W (M #[C Y 0,C Y 0,C Y 0,C Y 0] 82)).heap[G]?=_:=(Cx _ _ _ cq).trans hG;have d3:(Az W (M #[C Y 0,C Y 0,C Y 0,C Y 0] 82)).cell? ⟨G,12,Ao⟩=H (Ah AQ):=(Cb bp 12).trans (OQ hs 1);have dz:=Dq _ G 12 _ _ bp;have HV:D (((AB W ⟨G,12,Ao⟩ (Ah AP)).alloc (M #[C Y 0,C Y 0,C Y 0,C Y 0] 82)).heap[G]?=H (M (DF c.arr all AP) 72)):=by refine(Cx _ _ _ (by simpa[World.setCell]using cq)).trans ?_;rw[DQ _ _ _ _ _ _ hG,q4u hs]
 have hz:K (U (AB W ⟨G,12,Ao⟩ (Ah AP)))=K (U W):=Bd;have HP:D (((AB W ⟨G,12,Ao⟩ (Ah AP)).alloc (M #[C Y 0,C Y 0,C Y 0,C Y 0] 82)).heap[K (U W)]?=H (M (CB (0,0,0,0)) 82)):=by rw[<-hz];exact Cj _
 have b3:Cg G W (AB W ⟨G,12,Ao⟩ (Ah AP)):=⟨Z,Z,Z,NY hz.symm,λi _ hi=>CY _ _ _ _ keQ⟩
 have HB:D (Cg G W ((AB W ⟨G,12,Ao⟩ (Ah AP)).alloc (M #[C Y 0,C Y 0,C Y 0,C Y 0] 82))):=b3.trans (.of_below Cl);clear hz b3;have bu:0<=c.depth:=E;have HR:=C9 (λV=>XU V c.depth c.bytes (bs:=all) ck.inn bu E E E hb);obtain⟨cz,dn⟩:=CA (Id c all);have ax:=AE dn;rw[ax];unfold Id kC at ax;obtain⟨bd,HD⟩:=CA (DN c.inn all c.depth c.bytes);rw[AE HD]at HR ax;have bv:c.depth.toNat+1<=4096:=E;obtain⟨k,HK⟩:=CA (c.depth.toNat+1);rw[AE HK]at HR ax bv;have cg:=C9 ax;have da:=C9 bv;have be:=C9 ck;have c5:=C9 cu;clear ax bv dw cu ck;have h6:c.arr[6]?=H (C Y c.inn):=rfl;have h8:c.arr[8]?=H (C Y c.depth):=rfl;have h9:c.arr[9]?=H (C Y c.bytes):=rfl;have H6:=C9 h6;have H8:=C9 h8;have H9:=C9 h9;have ao:=C9 hs;clear h6 h8 h9 hs hG bp;obtain⟨arr,a4⟩:=CA c.arr;rw[AE a4]at HV H6 H8 H9 ao bx ⊢;have bj:=C9 bx;have b5:=C9 (qwq c);rw[AE a4]at b5;clear bx;go_enter func39,ntmps39;go_wp2;generalize(AB W _ _).alloc _=V1 at *;have dh:D (∀V,A0 V1 V->V.heap[G]?=H (M (DF arr all AP) 72)):=λV hV=>(hV.block G (Cc HV)).trans HV;refine Dl (S:=λl=>l.heap[G]?=H (M (DF arr all AP) 72)) HV B6 ?_;intro o;refine Ca 0 24 (Ad (H ⟨G,0,Ao⟩)) o ?_;refine Ca 1 25 (Ad (H ⟨G,0,Ao⟩)) o ?_;refine Ca 2 26 (Ad (H ⟨G,0,Ao⟩)) o ?_;refine Ca 3 27 (Ad (H ⟨G,6,Ao⟩)) o ?_;refine Cf 4 28 (C Y c.inn) Z (λl w=>?y4) o ?_
 case y4=>(have z:l.cell? ⟨G,6,Ao⟩=_:=(Cb w 6).trans (MH H6);go_simp)
 refine Ca 5 29 (Ad (H ⟨G,0,Ao⟩)) o ?_;refine Ca 6 30 (Ad (H ⟨G,0,Ao⟩)) o ?_;refine Ca 7 31 (Ad (H ⟨G,0,Ao⟩)) o ?_;refine Ca 8 32 (Ad (H ⟨G,8,Ao⟩)) o ?_;refine Cf 9 33 (C Y c.depth) Z (λl w=>?y9) o ?_
 case y9=>(have z:l.cell? ⟨G,8,Ao⟩=_:=(Cb w 8).trans (MH H8);go_simp)
 refine Ca 10 34 (Ad (H ⟨G,0,Ao⟩)) o ?_;refine Ca 11 35 (Ad (H ⟨G,0,Ao⟩)) o ?_;refine Ca 12 36 (Ad (H ⟨G,0,Ao⟩)) o ?_;refine Ca 13 37 (Ad (H ⟨G,9,Ao⟩)) o ?_;refine Cf 14 38 (C Y c.bytes) Z (λl w=>?y14) o ?_
 case y14=>(have z:l.cell? ⟨G,9,Ao⟩=_:=(Cb w 9).trans (MH H9);go_simp)
 refine Ca 15 39 (Ad (H ⟨G,0,Ao⟩)) o ?_;refine Ca 16 40 (Ad (H ⟨G,0,Ao⟩)) o ?_;refine Ca 17 41 (Ad (H ⟨G,11,Ao⟩)) o ?_;refine Cf 18 42 (Ae ⟨Aw all⟩) Z (λl w=>?y18) o ?_
 case y18=>(have z:l.cell? ⟨G,11,Ao⟩=_:=(Cb w 11).trans (OQ ao 0);go_simp)
 have a0:D (A0 V1 {V1 with drawn:=V1.drawn+1}):=(Cq _ _).drew;have A:D (∀V,Below (K (U ({V1 with drawn:=V1.drawn+1}:X))) {V1 with drawn:=V1.drawn+1} V->V.heap[G]?=H (M (DF arr all AP) 72)):=λV hV=>dh.out V (a0.trans hV);generalize({V1 with drawn:=V1.drawn+1}:X)=V2 at *;refine Y6 (β:=I×I×A3×(J×J)×X) #[AP,AP,AP,AP,AP,AP,AP,AP,AP,AP,AP,AP,AP,AP,AP,AP,AP,AP,AP,AP,AP,AP,AP,AP,AP,AQ,AQ] 2 (λx=>[(43,Af #[.agg x.2.2.1,.agg (Cd x.2.2.2.1)]),(23,Af #[.agg x.2.2.1,.agg (Cd x.2.2.2.1)]),(44,.agg x.2.2.1),(45,.agg (Cd x.2.2.2.1)),(6,Ad (H ⟨x.1,0,Ao⟩)),(7,Ad (H ⟨x.2.1,0,Ao⟩))]) (Y7 V2 k all c.bytes bd) (λx=>x.2.2.2.2) (λcy=>?_) ?_
 .have aw:=C9 cy;clear cy;refine jN 19 23 24 (λL b=>?_) (λL b=>?_) (λL b=>?_)
  .go_simp;refine(HR _).mono ?_;rintro e w1 h;obtain⟨t,F,rfl,d,hr⟩:=LO h;simp only[];have r:=A.out w1 ((Cq (K (U V2)) V2).trans (d.mono (Cq (K (U V2)) V2).size));refine b.out _ _ r (λ_=>?_);clear b h;refine Ca 20 23 (Af #[.agg t,.agg (Cd F)]) r ?_;refine Ca 21 44 (.agg t) r ?_;refine Ca 22 45 (.agg (Cd F)) r ?_;refine GP 23 24 (λL b=>?_) (λL b=>?_)
   .go_simp;refine b.out _ _ (A _ ((d.trans (Cl.mono d.size)))) (λ_=>?_);clear b;refine CC 24 (λL b=>?_);obtain⟨t1,t2,Q,t4⟩:=NF w1 (M Cr 101) (M (Cd (0,0)) 103);go_simp;refine b.out _ _ (A _ (d.trans (Q.mono d.size))) (λ_=>?_);clear b;exact cast B6 (aw (K (U w1),K (U w1)+1,t,F,_) (Kx hr (Cq (K (U V2)) V2) d Q t1 t2 kex))
   go_simp;refine b.out _ _ (A _ ((d.trans (Cl.mono d.size)))) (λ_=>?_);clear b;refine CC 23 (λL b=>?_);obtain⟨t1,t2,Q,t4⟩:=NF w1 (M (Cd (0,0)) 103) (M Cr 101);go_simp;refine b.out _ _ (A _ (d.trans (Q.mono d.size))) (λ_=>?_);clear b;exact cast B6 (aw (K (U w1)+1,K (U w1),t,F,_) (Kx hr (Cq (K (U V2)) V2) d Q t2 t1 kex))
  .go_simp;refine b.out _ _ (A _ (Cl)) (λ_=>?_);clear b;have P:A0 V2 (Az V2 (M Cr 101)):=Cl;refine GP 19 24 (λL b=>?_) (λL b=>?_)
   .go_simp;refine(HR _).mono ?_;rintro e w1 h;obtain⟨t,F,rfl,d,hr⟩:=LO h;simp only[];have r:=A.out w1 (P.trans (d.mono P.size));refine b.out _ _ r (λ_=>?_);clear b h;refine Ca 20 23 (Af #[.agg t,.agg (Cd F)]) r ?_;refine Ca 21 44 (.agg t) r ?_;refine Ca 22 45 (.agg (Cd F)) r ?_;refine CC 24 (λL b=>?_);go_simp;refine b.out _ _ (A _ ((P.trans (d.mono P.size)).trans (Cl.mono (Cy P.size d.size)))) (λ_=>?_);clear b;exact cast B6 (aw (K (U V2),K (U w1),t,F,_) (Kx hr P d Cl ((Cx _ _ _ C2).trans ((d.block _ Bh).trans (Cj V2))) (Cj w1) Bv))
   obtain⟨t1,t2,Q,t4⟩:=NF V2 (M Cr 101) (M (Cd (0,0)) 103);go_simp;refine b.out _ _ (A _ (Q)) (λ_=>?_);clear b;refine CC 19 (λL b=>?_);go_simp;refine(HR _).mono ?_;rintro e w1 h;obtain⟨t,F,rfl,d,hr⟩:=LO h;simp only[];have r:=A.out w1 (Q.trans (d.mono Q.size));refine b.out _ _ r (λ_=>?_);clear b h;refine Ca 20 23 (Af #[.agg t,.agg (Cd F)]) r ?_;refine Ca 21 44 (.agg t) r ?_;refine Ca 22 45 (.agg (Cd F)) r ?_;exact cast B6 (aw (K (U V2),K (U V2)+1,t,F,_) (Kx hr Q d (Cq _ _) ((d.block _ Bh).trans t1) ((d.block _ Bh).trans t2) Bv))
  go_simp;refine b.out _ _ (A _ (Cl)) (λ_=>?_);clear b;have P:A0 V2 (Az V2 (M (Cd (0,0)) 103)):=Cl;refine GP 19 23 (λL b=>?_) (λL b=>?_)
  .go_simp;refine(HR _).mono ?_;rintro e w1 h;obtain⟨t,F,rfl,d,hr⟩:=LO h;simp only[];have r:=A.out w1 (P.trans (d.mono P.size));refine b.out _ _ r (λ_=>?_);clear b h;refine Ca 20 23 (Af #[.agg t,.agg (Cd F)]) r ?_;refine Ca 21 44 (.agg t) r ?_;refine Ca 22 45 (.agg (Cd F)) r ?_;refine CC 23 (λL b=>?_);go_simp;refine b.out _ _ (A _ ((P.trans (d.mono P.size)).trans (Cl.mono (Cy P.size d.size)))) (λ_=>?_);clear b;exact cast B6 (aw (K (U w1),K (U V2),t,F,_) (Kx hr P d Cl (Cj w1) ((Cx _ _ _ C2).trans ((d.block _ Bh).trans (Cj V2))) Bv))
  obtain⟨t1,t2,Q,t4⟩:=NF V2 (M (Cd (0,0)) 103) (M Cr 101);go_simp;refine b.out _ _ (A _ (Q)) (λ_=>?_);clear b;refine CC 19 (λL b=>?_);go_simp;refine(HR _).mono ?_;rintro e w1 h;obtain⟨t,F,rfl,d,hr⟩:=LO h;simp only[];have r:=A.out w1 (Q.trans (d.mono Q.size));refine b.out _ _ r (λ_=>?_);clear b h;refine Ca 20 23 (Af #[.agg t,.agg (Cd F)]) r ?_;refine Ca 21 44 (.agg t) r ?_;refine Ca 22 45 (.agg (Cd F)) r ?_;exact cast B6 (aw (K (U V2)+1,K (U V2),t,F,_) (Kx hr Q d (Cq _ _) ((d.block _ Bh).trans t2) ((d.block _ Bh).trans t1) Bv))
 rintro⟨N,v,t,F,w9⟩ hT;obtain⟨kd,n,z,a,i1,j1,m,p1,m1,e⟩:=hT.says.1;have bz:=hT.says;have dt:=hT.lo.1;have du:=hT.lo.2;have cw:=hT.ne;dsimp only at e bz dt du cw;subst e;have dr:K (U W)<K (U V1):=Cc HP;have d1:=a0.size;have ct:w9.heap[G]?=_:=A.out w9 hT.below;have cr:w9.heap[K (U W)]?=H (M (CB (0,0,0,0)) 82):=(hT.below.block _ E).trans ((a0.block _ dr).trans HP);have bq:(AD w9 N (Ce kd n z (T a i1 j1) (T m p1 m1))).heap[G]?=H (M (DF arr all AP) 72):=sx E ct;have bn:(AD w9 N (Ce kd n z (T a i1 j1) (T m p1 m1))).heap[v]?=H (M (Cd (0,0)) 103):=sx E hT.fb;have br:(AD (AD w9 N (Ce kd n z (T a i1 j1) (T m p1 m1))) v (Cd F)).heap[G]?=H (M (DF arr all AP) 72):=sx E bq;have b9:D ((AD (AD w9 N (Ce kd n z (T a i1 j1) (T m p1 m1))) v (Cd F)).heap[v]?=H (M (Cd F) 103)):=CM _ _ _ _ _ _ bn;have bk:D ((AD (AD w9 N (Ce kd n z (T a i1 j1) (T m p1 m1))) v (Cd F)).heap[N]?=H (M (Ce kd n z (T a i1 j1) (T m p1 m1)) 101)):=sx cw (CM _ _ _ _ _ _ hT.tb);have av:D ((AD (AD w9 N (Ce kd n z (T a i1 j1) (T m p1 m1))) v (Cd F)).heap[K (U W)]?=H (M (CB (0,0,0,0)) 82)):=sx E (sx E cr);have aj:D (Cg G W (AD (AD w9 N (Ce kd n z (T a i1 j1) (T m p1 m1))) v (Cd F))):=by have h1:=a0.trans (hT.below.mono a0.size);have h3:=AE HB;have h4:=h3.size;exact⟨h1.os.trans h3.os,h1.tape.trans h3.tape,h1.output.trans h3.output,by simpa using Cy h3.size h1.size,λj q hn=>sx E (sx E ((h1.block j E).trans (h3.block j q hn)))⟩
 have a9:D (OR k all c.bytes bd (λj=>K (U V2)<=j/\j<K (U (AD (AD w9 N (Ce kd n z (T a i1 j1) (T m p1 m1))) v (Cd F)))/\j≠N/\j≠v) (Ce kd n z (T a i1 j1) (T m p1 m1)) F (AD (AD w9 N (Ce kd n z (T a i1 j1) (T m p1 m1))) v (Cd F))):=bz.same (λj q=>by simpa using q) λj q=>sx q.2.2.2 (sx q.2.2.1 Z);have al:=C9 br;refine Hy 25 6 44 B6 hT.tb thg bq ?_;refine sF 26 7 45 B6 bn br ?_;refine CG ?_;go_simp;clear ct cr bq bn br hT bz HR;generalize AD (AD w9 N _) v (Cd F)=w11 at *;have a6:D (∀(V:X) (R:Cu),A0 w11 V->(AD V (K (U W)) (CB R)).heap[K (U W)]?=H (M (CB R) 82)/\Cg G W (AD V (K (U W)) (CB R))/\(AD V (K (U W)) (CB R)).heap[G]?=H (M (DF arr all AP) 72)):=λV R h=>⟨CM _ _ _ _ _ _ ((h.block _ (Cc av)).trans av),⟨h.os.trans aj.os,h.tape.trans aj.tape,h.output.trans aj.output,by simpa using Cy aj.size h.size,λj q hn=>sx E ((h.block j (CK q aj.size)).trans (aj.block j q hn))⟩,sx E ((h.block _ (Cc al)).trans al)⟩
 have r0:AC w11 ⟨v,0,Ao⟩=H (C Y F.1):=Cb b9 0;have bc:=QL c.inn all c.depth c.bytes bu;rw[AE HD]at bc;obtain dp|dd:=bd
 .obtain rfl:F=dp:=a9.2;have d0:(F.1 != 0)=AP:=by simpa using bc F.1 F.2 Z
  have HE:D (.error F=cz):=AE cg;clear a9 bc
  go_wp2_with fail
  have ds:∀l:X,l.heap=w11.heap->l.heap[v]?=H (M (Cd F) 103)/\l.heap[K (U W)]?=H (M (CB (0,0,0,0)) 82):=λl h=>by rw[h];exact⟨b9,av⟩
  refine Dl (S:=λl=>l.heap[v]?=H (M (Cd F) 103)/\l.heap[K (U W)]?=H (M (CB (0,0,0,0)) 82)) (ds _ Z) B6 ?_;intro o;refine Ca 0 49 (.agg (CB (0,0,0,0))) o ?_;refine Ca 1 50 (Ad (H ⟨v,0,Ao⟩)) o ?_;refine Cf 2 51 (C Y F.1) Z (λl w=>?z2) o ?_
  case z2=>(have z:l.cell? ⟨v,0,Ao⟩=H (C Y F.1):=Cb w.1 0;go_simp)
  refine Ca 3 52 (Ad (H ⟨v,1,Ao⟩)) o ?_;refine Cf 4 53 (C Y F.2) Z (λl w=>?z4) o ?_
  case z4=>(have z:l.cell? ⟨v,1,Ao⟩=H (C Y F.2):=Cb w.1 1;go_simp)
  refine Ca 5 2 (Ae ⟨#[]⟩) o ?_;obtain⟨f1,f2,f3⟩:=a6.out _ (0,0,0,0) (Cq (K (U w11)) w11).drew;have bo:(({w11 with drawn:=w11.drawn+1}:X).setRow (K (U W)) (CB (0,0,0,0))).heap[v]?=H (M (Cd F) 103):=sx E o.1;refine QM (i:=6) (x:=.tmp 3) (y:=.tmp 49) (g:=K (U W)) (cells:=CB (0,0,0,0)) B6 Z B6 Z Z B6 B6 o.2 F2 Z Bq ⟨bo,f1⟩ ?_;refine Ca 7 4 (C Y F.1) ⟨bo,f1⟩ ?_;refine Ca 8 5 (C Y F.2) ⟨bo,f1⟩ ?_;refine CG ?_;go_simp;go_wp2;rw[<-AE HE];exact CL (NG results39 Z f1 underlying82 Z F2 Z Z Z) Z ⟨Z,f2,f3⟩
 obtain⟨dq,cs,dx⟩:=a9.2;have b0:=Ri bu HD;subst dq;have de:=C9 cs;have di:=C9 b0;have cj:=(bj w11 aj).2;have c9:=C9 (bj w11 aj).1;have co:DA k dd<=1638400:=B3 ((b0 k).1) (AE c5);have dy:=U5 k dd;have dv:=U4 k dd;have c4:=C9 co;have ca:D (CS k dd<=90000/\O (Do k dd)<=999999999):=⟨E,E⟩
 clear co dy dv;have an:∀(j:I) (u:Aq),arr[j]?=H u->AC w11 ⟨G,0+j,Ao⟩=H u:=λj u q=>(Cb al _).trans (by rw[Gw];exact MH q);have au:=C9 an;clear a9 cs dx b0 bc an bj
 go_wp2_with(first
  |(refine PT (.tmp 57) Z B6 Z au underlying40 Z (Ec ao) ?_)
  |(go_at_call 64;refine cj.mono ?_;clear cj;rintro e f ⟨ra,rn,rc,rx,rfl,bm,cx⟩;have ar:=C9 bm;have dc:=C9 cx;have an:∀(j:I) (u:Aq),arr[j]?=H u->AC f ⟨G,0+j,Ao⟩=H u:=(λj u q=>(bm.cell (p:=⟨G,0+j,Ao⟩) (Cc al)).trans (au j u q));have c6:=C9 an;clear au an bm cx)
  |(refine PT (.tmp 64) Z B6 Z c6 underlying40 Z (Ec ao) ?_)
  |(refine IZ Z Z Z ?hl (b5 ra rn rc) ?_;(case hl=>simp[go_sem]);have c0:=ar.size;have dj:D ((Az f (M (arr++#[T ra rn rc,C Y 0,C Y 0,C Y 0,C Y 0]) 158)).heap[N]?=H (M (Ce kd n z (T a i1 j1) (T m p1 m1)) 101)):=(Cx _ _ _ (CK (Cc bk) c0)).trans ((ar.block _ (Cc bk)).trans bk);have cl:=jJ (dc _ (Co _)) k (Az f (M (arr++#[T ra rn rc,C Y 0,C Y 0,C Y 0,C Y 0]) 158)) (λj=>K (U V2)<=j/\j<K (U w11)/\j≠N/\j≠v) _ dd Ao [] 0 (0,0,0,0) 0 ⟨Cj _,Cl,Ba⟩ ⟨λi hi=>by simp at hi⟩ nofun (λ_=>rfl) (λj q=>⟨B0 q.2.1,by have:=q.2.1;show j≠K (U f);omega⟩) (de.same (λ_ h=>h) (λj q=>(Cx _ _ _ (CK q.2.1 c0)).trans (ar.block j q.2.1))) ca.2 (AY ca.1) (B0 (AE da));have b7:=C9 cl;clear cl)
  |(refine CT Z 101 (.tmp 6) Z N Z 101 (Ce kd n z (T a i1 j1) (T m p1 m1)) (0,0) _ dj underlying101 Z Kf ?_)
  |(go_at_call 77;go_loud (refine b7.mono ?_;clear b7;rintro e ai ⟨ah,n3,s3,ab,ac,ad,ae,af,ag,rfl,c1,cp,cv,c2⟩;have dm:=C9 c2;clear c2;unfold Ce;have ce:=C9 c1;have b4:=C9 cp;have c7:=C9 cv;clear c1 cp cv)))
 have a2:D (A0 ai (Az ai (M #[C Y ah,C Y n3,.string s3,T ab ac ad,T ae af ag] 101))):=Cl;have dk:D ((Az ai (M #[C Y ah,C Y n3,.string s3,T ab ac ad,T ae af ag] 101)).heap[K (U ai)]?=H (M (Ce ah n3 s3 (T ab ac ad) (T ae af ag)) 101)):=Cj _;generalize Az ai (M #[C Y ah,C Y n3,.string s3,T ab ac ad,T ae af ag] 101)=w15 at *;have bh:D (A0 w11 w15):=by have g2:=ar.size;have g3:A0 w11 (Az f (M (arr++#[T ra rn rc,C Y 0,C Y 0,C Y 0,C Y 0]) 158)):=ar.trans (Cl.mono g2);exact(g3.trans (b4.low g2 g3.size)).trans (a2.mono (Cy g3.size b4.size))
 have a8:D (w15.heap[K (U f)]?=_):=(a2.block _ (Cc ce.box)).trans ce.box;have dg:D (w15.heap[G]?=H (M (DF arr all AP) 72)):=(bh.block _ (Cc al)).trans al;obtain⟨d2,a5⟩:=CA ((CW (G8 c) k [] dd (0,0,0,0)).1.getD .nil);have df:D (CP k ai (λj=>K (U f)+1<=j/\j<K (U ai)) (.agg (Ce ah n3 s3 (T ab ac ad) (T ae af ag))) d2):=by
  have h1:=AE c7;have h2:=AE dm;have h3:=AE a5;dsimp only[List.reverse_nil]at h1 h2;rcases hq:(CW (G8 c) k [] dd (0,0,0,0)).1 with _|d'
  .rw[hq]at h2 h3;obtain rfl:.nil=d2:=h3;obtain⟨k',rfl⟩:∃k',k=k'+1:=⟨_,HK.symm⟩
   exact congrArg Value.agg (h2 Z)
  rw[hq]at h1 h3;obtain rfl:d'=d2:=h3;have h4:=h1 _ Z;simp only[CI,A0]at h4;exact h4
 have cd:D (EX k d2):=by rw[<-AE a5];exact Y9 (di k).2
 have cc:D (DA k d2<=149999999):=by show _<=_;rw[<-AE a5];have:=XR (G8 c) k dd (0,0,0,0);have:=AE c4;omega
 have h7:arr[7]?=H (C Y c.out):=by rw[<-AE a4];rfl
 have H7:=C9 h7;have bf:D (∀V,A0 w15 V->Ar As 47 #[C Y c.out,.agg (Ce ah n3 s3 (T ab ac ad) (T ae af ag))] V (I5 (_root_.Decidable.decide (c.out=1)&&Fd k d2) (Ft c.out k d2) V)):=λV hV=>qtX be.out.out (λj q=>CK q.2 (Cy a2.size hV.size)) (df.same (λ_ h=>h) λj q=>(hV.block j (CK q.2 a2.size)).trans (a2.block j q.2)) cd cc;have bw:O (Ft c.out k d2)<=999999999:=B3 (XS (fm:=c.out) cd) (AE cc);have b2:Except.ok ((CW (G8 c) k [] dd (0,0,0,0)).2,Lc c.out k d2 c.B)=cz:=by rw[<-AE a5];exact cg
 obtain⟨hh,HH⟩:=CA (_root_.Decidable.decide (c.out=1)&&Fd k d2);rw[AE HH]at bf;obtain⟨ol,bi⟩:=CA (Ft c.out k d2);rw[AE bi]at bf bw;obtain⟨R,cb⟩:=CA ((CW (G8 c) k [] dd (0,0,0,0)).2);rw[AE cb]at b2;dsimp only[List.reverse_nil,LN]at a8;rw[AE cb]at a8;have bl:=C9 b2;have db:=C9 bw;clear b2 bw;clear h7;refine Dl (S:=λl=>l.heap[G]?=H (M (DF arr all AP) 72)/\l.heap[K (U ai)]?=H (M (Ce ah n3 s3 (T ab ac ad) (T ae af ag)) 101)) ⟨dg,dk⟩ B6 ?_;intro aa;refine Ca 0 76 (Ad (H ⟨G,0,Ao⟩)) aa ?_;refine Ca 1 77 (Ad (H ⟨G,0,Ao⟩)) aa ?_;refine Ca 2 78 (Ad (H ⟨G,0,Ao⟩)) aa ?_;refine Ca 3 79 (Ad (H ⟨G,7,Ao⟩)) aa ?_;refine Cf 4 80 (C Y c.out) Z (λl w=>?x4) aa ?_
 case x4=>(have z:l.cell? ⟨G,7,Ao⟩=_:=(Cb w.1 7).trans (MH H7);go_simp)
 refine Cf 5 81 (.agg (Ce ah n3 s3 (T ab ac ad) (T ae af ag))) Z (λl w=>yT 11 w.2 Z Z) aa ?_;refine CC 6 (λL b=>?_);go_simp;refine(bf _ (Cq _ _).drew).mono ?_;rintro e Mq ⟨rfl,a3⟩;simp only[];have ap:Mq.heap[G]?=H (M (DF arr all AP) 72)/\Mq.heap[K (U ai)]?=H (M (Ce ah n3 s3 (T ab ac ad) (T ae af ag)) 101):=⟨(a3.block _ (Cc aa.1)).trans aa.1,(a3.block _ (Cc aa.2)).trans aa.2⟩
 refine b.out _ _ ap (λ_=>?_);clear b;refine Ca 7 75 (Af #[Ae ⟨Aw (bif hh then[]else ol)⟩,Ah (!hh)]) ap ?_;refine Ca 8 83 (Ae ⟨Aw (bif hh then[]else ol)⟩) ap ?_;refine Ca 9 84 (Ah (!hh)) ap ?_;refine Ca 10 13 (Ae ⟨Aw (bif hh then[]else ol)⟩) ap ?_;refine Ca 11 14 (Ah (!hh)) ap ?_;refine CG ?_;go_simp;have ak:D (A0 w11 Mq):=bh.drew.trans (a3.mono bh.size);have cf:D (Mq.heap[K (U f)]?=_):=(a3.block _ (Cc a8)).trans a8;have az:D (Mq.heap[K (U W)]?=_):=(ak.block _ (Cc av)).trans av;have c8:=C9 (c9.below ak);clear aa ap a3;cases hh
 .have an:∀(j:I) (u:Aq),arr[j]?=H u->AC Mq ⟨G,0+j,Ao⟩=H u:=λj u q=>(Cb ((ak.block _ (Cc al)).trans al) _).trans (by rw[Gw];exact MH q);have au:=C9 an;have cn:arr[10]?=H (T c.ba (O c.B) c.bcap):=by rw[<-AE a4];rfl
  have cF:=C9 (qxk H7 cn c8 be.b8 be.b6 db);clear an cn;rcases hf:IG c.out ol c.B with _|s
  .have HE:D (.ok (R,.error 14)=cz):=by have h:=AE bl;rw[jY kev (by rw[AE bi];exact hf)]at h;exact h
   rw[hf]at cF
   go_wp2_with(first
    |(refine PT (.tmp 91) Z B6 Z au underlying40 Z (Ec ao) ?_)
    |(go_at_call 78;refine cF.out.mono ?_;rintro e ay ⟨rfl,am⟩;have bg:=C9 (ak.trans (am.mono ak.size));have a7:D (ay.heap[K (U W)]?=_):=(am.block _ (Cc az)).trans az;clear am)
    |(refine Db Z 82 _ _ Z (K (U W)) (CB (0,0,0,0)) Z Z 82 _ a7 F2 Z Bq ?_))
   obtain⟨f1,f2,f3⟩:=a6.out _ (0,0,0,0) bg;rw[<-AE HE];exact CL (NG results39 Z f1 underlying82 Z F2 Z Z Z) Z ⟨Z,f2,f3⟩
  have HE:D (.ok (R,.ok s)=cz):=by have h:=AE bl;rw[jZ kev (by rw[AE bi];exact hf)]at h;exact h
  rw[hf]at cF
  go_wp2_with(first
   |(refine PT (.tmp 91) Z B6 Z au underlying40 Z (Ec ao) ?_)
   |(go_at_call 78;refine cF.out.mono ?_;rintro e ay ⟨rfl,am⟩;have bg:=C9 (ak.trans (am.mono ak.size));have a7:D (ay.heap[K (U W)]?=_):=(am.block _ (Cc az)).trans az;have dl:D (ay.heap[K (U f)]?=_):=(am.block _ (Cc cf)).trans cf;clear am))
  refine Dl (S:=λl=>l.heap[K (U f)]?=H (M (arr++#[T ra rn rc,C Y R.1,C Y R.2.1,C Y R.2.2.1,C Y R.2.2.2]) 158)/\∃R',l.heap[K (U W)]?=H (M (CB R') 82)) ⟨dl,_,a7⟩ B6 ?_;intro aq;refine Ca 0 100 (Ae ⟨Aw s⟩) aq ?_;refine Ca 1 101 (Ad (H ⟨K (U f),0,Ao⟩)) aq ?_;refine Ca 2 102 (Ad (H ⟨K (U f),0,Ao⟩)) aq ?_;refine Ca 3 103 (Ad (H ⟨K (U f),12,Ao⟩)) aq ?_;refine Cf 4 104 (.agg (CB R)) Z (λl w=>Nz (.tmp 103) Z Z (λj u hu=>(Cb w.1 (12+j)).trans (q2m ao hu)) underlying82 Z F2) aq ?_;refine Ca 5 2 (Ae ⟨Aw s⟩) aq ?_;obtain⟨f1,f2,f3⟩:=a6.out _ R bg.drew;have bt:(({ay with drawn:=ay.drawn+1}:X).setRow (K (U W)) (CB R)).heap[K (U f)]?=_:=sx (B3 (Cc av) ar.size) aq.1;refine QM (i:=6) (x:=.tmp 3) (y:=.tmp 104) (g:=K (U W)) (cells:=CB R) B6 Z B6 Z Z B6 B6 a7 F2 Z Bq ⟨bt,R,f1⟩ ?_;refine Ca 7 4 (C Y 0) ⟨bt,R,f1⟩ ?_;refine Ca 8 5 (C Y 0) ⟨bt,R,f1⟩ ?_;refine CG ?_;go_simp;go_wp2;rw[<-AE HE];exact CL (NG results39 Z f1 underlying82 Z F2 Z Z Z) Z ⟨Z,f2,f3⟩
 have HE:D (.ok (R,.error 13)=cz):=by have h:=AE bl;rw[jX kev]at h;exact h
 obtain⟨f1,f2,f3⟩:=a6.out _ (0,0,0,0) ak
 go_wp2_with(first|(refine Db rfl 82 _ _ rfl (K (U W)) (CB (0,0,0,0)) rfl rfl 82 _ az F2 rfl Bq ?_))
 rw[<-AE HE];exact CL (NG results39 Z f1 underlying82 Z F2 Z Z Z) Z ⟨Z,f2,f3⟩
theorem qrX(X:I->Prop)(k:I){W:Ap}{g:Gt}(ad:g.rc.size=40){fn:I}(a1:(Da g (T fa fn fc) AQ).all (·.oneCell')=AP)(j:A7 W L (Da g (T fa fn fc) AQ) 135){r:AS (J×J) (AM Unit)}(an:∀P pl,r=.error (P,pl)->P≠0)(z:Cz)(cD:∀n,Below (K (U (Gu W L g (T fa fn fc)))) (Gu W L g (T fa fn fc)) n->Ar As 43 #[C Y g.inF,Ag #[C Y g.depth,C Y g.bytes],T fa fn fc] n (Mc k n r))(hz:∀e,r=.error e->z=.error e)(F:∀ac,r=.ok ac->∃ab o,z=.ok (ab,o)/\∀V ae af,Below (K (U (Gu W L g (T fa fn fc)))) (Gu W L g (T fa fn fc)) V->Cv k V (λa2=>K (U (Gu W L g (T fa fn fc)))<=a2/\a2<K (U V)) (Ai ae af) ac->∀n,A0 V n->Ar As 76 #[A8 (K (U W)+1),Ai ae af] n (ke X n ab o)):Ar As 38 #[A8 L] W (q44 X W L z):=by
 have hL:=Cc j;have ax:(Az W (M #[C Y 0,C Y 0,C Y 0,C Y 0] 82)).cell? ⟨L,46,Ao⟩=H (Ah AQ):=(Cb ((Cx _ _ _ hL).trans j) 46).trans (Lb ad 2);have p:D ((Az W (M #[C Y 0,C Y 0,C Y 0,C Y 0] 82)).heap[L]?=H (M (Da g (T fa fn fc) AQ) 135)):=(Cx _ _ _ hL).trans j;have v:D ((Az (Az W (M #[C Y 0,C Y 0,C Y 0,C Y 0] 82)) (M (Da g (T fa fn fc) AQ) 135)).heap[L]?=H (M (Da g (T fa fn fc) AQ) 135)):=(Cx _ _ _ (by grind [D])).trans p;have aa:D ((Az (Az W (M #[C Y 0,C Y 0,C Y 0,C Y 0] 82)) (M (Da G7 (T Ao 0 0) AQ) 135)).heap[K (U W)+1]?=H (M (Da G7 (T Ao 0 0) AQ) 135)):=by grind [D,Cj,World.size_alloc]
 have B:D ((Az (Az W (M #[C Y 0,C Y 0,C Y 0,C Y 0] 82)) (M (Da G7 (T Ao 0 0) AQ) 135)).setRow (K (U W)+1) (Da g (T fa fn fc) AQ)=Az (Az W (M #[C Y 0,C Y 0,C Y 0,C Y 0] 82)) (M (Da g (T fa fn fc) AQ) 135)):=by grind [D,World.setRow_alloc_new,World.size_alloc]
 have x:D ((Da g (T fa fn fc) AQ).size=47):=Yg ad;have al:D ((Da G7 (T Ao 0 0) AP).size=47):=Yg Ul;have A:D ((Da G7 (T Ao 0 0) AQ).size=(Da g (T fa fn fc) AQ).size):=by grind [Yg,Ul]
 have q:D ((Da g (T fa fn fc) AQ).size=(Da G7 (T Ao 0 0) AP).size):=by grind [D]
 have ai:=G a1;have aj:D ((Da G7 (T Ao 0 0) AP).all (·.oneCell')=AP):=by show _=_;kernel_rfl
 have m:D (Gu W L g (T fa fn fc)=(Az (Az W (M #[C Y 0,C Y 0,C Y 0,C Y 0] 82)) (M (Da g (T fa fn fc) AQ) 135)).setRow L (Da G7 (T Ao 0 0) AP)):=rfl;have l:D ((Gu W L g (T fa fn fc)).heap[K (U W)]?=H (M (CB (0,0,0,0)) 82)):=q3r hL;have f:=G (qyH j);have a5:D (K (U (Gu W L g (T fa fn fc)))=K (U W)+2):=Un _;have N:=jO ad (kq _ hL) cD;have HP:=G F;clear j ad cD F a1;have ag:=G quB;obtain⟨W3,aw⟩:=CA (Gu W L g (T fa fn fc));have ah:D (∀V,E6 X (Gu W L g (T fa fn fc)) V->NI X L W V):=λV h=>NI.of h;rw[AE aw]at m l f a5 N HP ah;clear aw;have bc:L≠K (U W):=E;obtain⟨GA,a3⟩:=CA (Da g (T fa fn fc) AQ);obtain⟨GZ,aq⟩:=CA (Da G7 (T Ao 0 0) AP);rw[AE a3]at p v B x A q ai m;rw[AE aq]at m f al q aj ag;rcases r with⟨P,pl⟩|ac
 .obtain rfl:=hz _ rfl;have a9:=an P pl Z;have e2:(P != 0)=AP:=by simpa using a9
  clear hz an HP;go_enter func38,ntmps38
  go_wp2_with(first
   |(refine CT Z 135 _ Z L Z _ _ _ _ p underlying135 Z (Q0 x) ?_)
   |(refine ko Z Z Z (K (U W)+1) ?hN ?_;case hN=>grind [World.size_alloc])
   |(refine Db Z 135 _ _ Z (K (U W)+1) GA Z Z 135 _ aa (Q0 x) A ai ?_;rw[AE B];clear aa B)
   |(refine IZ Z Z Z ?hl ag ?_;case hl=>simp[go_sem])
   |(refine Db Z 135 _ _ Z L GZ Z Z 135 _ v (Q0 al) q aj ?_;rw[<-AE m];clear ax p v A q m)
   |(go_at_call 75;refine N.mono ?_;clear N;rintro e u ⟨c,hF⟩;obtain rfl:=hF;have R:D (E6 X W3 u):=E6.of_below c;have w:=G ((c.block _ (Cc l)).trans l);have ap:=G ((c.block _ (Cc f)).trans f);clear c l f)
   |(refine Db Z 82 _ _ Z (K (U W)) #[C Y 0,C Y 0,C Y 0,C Y 0] Z Z 82 _ w MI Z Yf ?_))
  refine CL (NG results38 Z (CM _ _ _ _ _ _ w) underlying82 Z MI Z Z Z) Z ?_;exact⟨Ao,0,0,Z,(ah _ R).set (Co _) _,by grind [D,setRow_other],Z⟩
 obtain⟨ab,o,rfl,az⟩:=HP.out ac rfl;have ar:=G az;clear hz an HP az;obtain⟨a,au⟩:=CA (Yc ab o);obtain⟨E1,ao⟩:=CA (Yd o);go_enter func38,ntmps38
 go_wp2_with(first
  |(refine CT Z 135 _ Z L Z _ _ _ _ p underlying135 Z (Q0 x) ?_)
  |(refine ko Z Z Z (K (U W)+1) ?hN ?_;case hN=>grind [World.size_alloc])
  |(refine Db Z 135 _ _ Z (K (U W)+1) GA Z Z 135 _ aa (Q0 x) A ai ?_;rw[AE B];clear aa B)
  |(refine IZ Z Z Z ?hl ag ?_;case hl=>simp[go_sem])
  |(refine Db Z 135 _ _ Z L GZ Z Z 135 _ v (Q0 al) q aj ?_;rw[<-AE m];clear ax p v A q m)
  |(go_at_call 75;refine N.mono ?_;clear N;rintro e u ⟨c,hF⟩;obtain⟨ae,af,rfl,hT⟩:=hF;have F:=ar.out u ae af c hT u CO;have R:D (E6 X W3 u):=E6.of_below c;have w:=G ((c.block _ (Cc l)).trans l);have ap:=G ((c.block _ (Cc f)).trans f);have av:D (K (U W)<K (U u)):=by{grind [D]};clear c l f ar hT)
  |(go_at_call 76;refine F.mono ?_;clear F;rintro e b ⟨d,y,t,rfl,ay,a0⟩;have i:D (ku X W W3 L (K (U b)) a (T d y t) o (Az b (M (CB a) 82))):=q6G av R ay w (by grind [D]) a0;clear ay a0 R w ap av;rw[AE au,AE ao])
  |(refine Db Z 82 _ _ Z (K (U b)) (CB a) Z Z 82 _ (Cj b) (F2) Z (RN) ?_;rw[IT]))
 have Q:(λs:Ap=>A7 s (K (U b)) (CB a) 82) { (Az b (M (CB a) 82))with drawn:=(Az b (M (CB a) 82)).drawn+1}:=i.rep;refine Ef (S:=λs=>A7 s (K (U b)) (CB a) 82) B6 ?_;have a4:D (E6 X W3 { (Az b (M (CB a) 82))with drawn:=(Az b (M (CB a) 82)).drawn+1}):=i.fr.drew;have ak:D (({ (Az b (M (CB a) 82))with drawn:=(Az b (M (CB a) 82)).drawn+1}:Ap).heap[K (U W)]?=H (M (CB (0,0,0,0)) 82)):=i.res;have ba:D (({ (Az b (M (CB a) 82))with drawn:=(Az b (M (CB a) 82)).drawn+1}:Ap).heap[L]?=H (M GZ 135)):=by show _=_;rw[<-AE aq];exact i.gate
 have a6:D (NH { (Az b (M (CB a) 82))with drawn:=(Az b (M (CB a) 82)).drawn+1} (K (U W)) (T d y t) o):=i.val.same λ_ h=>h;have bd:=i.lt;clear i;generalize({ (Az b (M (CB a) 82))with drawn:=(Az b (M (CB a) 82)).drawn+1}:Ap)=w6 at *;generalize K (U b)=N8 at *;refine Ca 0 39 (T d y t) Q ?_;refine Cf 1 40 (.agg (CB a)) Z (λs hZ=>?y1) Q ?_
 case y1=>exact LG (.tmp 11) B6 B6 hZ underlying82 B6 (F2)
 refine Ca 2 41 (C Y E1) Q ?_;refine Ca 3 2 (T d y t) Q ?_;refine CC 4 (λbb hK=>?_);refine Kp B6 ?_;refine IW 82 (.tmp 3) (.tmp 40) Z (K (U W)) (CB a) B6 B6 82 (CB (0,0,0,0)) ak (F2) (kh) (RN) ?_;have am:(λs:Ap=>A7 s N8 (CB a) 82) (AD w6 (K (U W)) (CB a)):=sx E Q;refine hK.out _ _ am (λ_=>?_);clear hK;refine Ca 5 4 (C Y E1) am ?_;refine Ca 6 5 (C Y 0) am ?_;refine CG ?_;go_simp
 go_wp2_with fail
 refine CL (NG results38 Z (CM _ _ _ _ _ _ ak) underlying82 Z (F2) Z Z Z) Z ?_;have a8:=AE au;have a7:=AE ao;subst a8;subst a7;exact⟨d,y,t,Z,(ah _ a4).set (Co _) _,by grind [D,setRow_other],a6.same λ_ h=>km h ak⟩
def OU(A:AH)(q:D5)(own0:Option AH)(j:AH):Prop:=j=A\/j=q.lm\/j=q.tb\/j=q.nb\/j=q.mb\/own0=An j
theorem kA(h:DB W0 A q sts sv nf mn mf W){cs:A3}(a:W.heap[L]?=H (M cs 135))(b:OU A q (Ax sv) j):j≠L:=by
 intro e;subst e;rcases b with rfl|rfl|rfl|rfl|rfl|b
 .rw[h.row]at a;grind
 .exact LL h.letters a
 .obtain⟨c,d,_⟩:=h.takes;grind
 .exact LL h.numbers a
 .exact LL h.moves a
 exact absurd (U1 h.states b a) B8
theorem Yk(h:DB W0 A q sts sv nf mn mf W)(a:OU A q (Ax sv) j):j<K (U W):=by
 have c:∀{d:AN} {m n:I} {f:Lit->Option I},E5 W d m n f->m<K (U W):=by rintro d m n f ⟨k,⟨p,o,g,_⟩,_⟩;exact Cc g
 rcases a with rfl|rfl|rfl|rfl|rfl|a
 .exact Cc h.row
 .exact c h.letters
 .obtain⟨e,i,_⟩:=h.takes;exact Cc i
 .exact c h.numbers
 .exact c h.moves
 rcases h.states.2 with⟨b,_⟩|⟨r,l,e,b,_,s,_⟩
 .rw[b]at a;cases a
 rw[b]at a;injection a with a;grind
theorem NJ.step(h:NJ c W0 L A q sts sa sc nf mf bv W)(l:K (U W0)<=L)(d:W'.os=W.os/\W'.tape=W.tape/\W'.output=W.output)(k:K (U W)<=K (U W'))(e:∀j,j<L->W'.heap[j]?=W.heap[j]?)(i:∀j,OU A q (Ax (AX sa (O sts) sc)) j->W'.heap[j]?=W.heap[j]?):NJ c W0 L A q sts sa sc nf mf bv W':=by have a:=h.cp.au.below;refine⟨{h.cp with au:=h.cp.au.rebase Z ⟨d.1.trans a.os,d.2.1.trans a.tape,d.2.2.trans a.output,Cy a.size k,λj f=>(e j E).trans (a.block j f)⟩ h.cp.au.rules i},h.bk.same (λ_ b=>b) (λg b=>e g b.2),h.bs⟩
theorem Yl(h:DB W0 A q sts sv nf mn mf W)(a:OU A q (Ax sv) j):K (U W0)<=j:=by
 have:=h.high;rcases a with rfl|rfl|rfl|rfl|rfl|a
 case inr.inr.inr.inr.inr=>exact DK h.states a
 all_goals omega
theorem kB{o:Option I}(h:¬OU A q o j):Xc A q o j:=by grind [OU,Xc]
def JK(c:CD)(t0 lo L b:AH)(fb:Option AH)(fed:A1)(W:Ap):Prop :=
 ∃W0 A q sts sa sc nf mf bv fa fn fc,NJ c W0 L A q sts sa sc nf mf bv W/\(t0<=lo/\lo<=Au (Av W0)/\Au (Av W0)<=L/\L<b/\b<=Au (Av W))/\Ic t0 W0/\W.heap[L]?=An (Aj (Da (Ky c A bv) (Ac fa fn fc) AQ) 135)/\Ck W b (Ac fa fn fc) fed/\(∀j,OU A q (Ax (AX sa (At sts) sc)) j->j<b)/\At fed<=c.bytes.toNat+1/\Ax (AX fa fn fc)=fb/\∃lo' rc,lo<=lo'/\Ku W0 lo' (Ac q.ra (At (Gv c)) rc) (Gv c)
theorem JK.keep(h:JK c t0 lo L b fb fed W)(m:W'.os=W.os/\W'.tape=W.tape/\W'.output=W.output)(hs:K (U W)<=K (U W'))(i:∀j,j<t0\/(lo<=j/\j<b)\/fb=H j->W'.heap[j]?=W.heap[j]?):JK c t0 lo L b fb fed W':=by obtain⟨a,A,q,aa,sa,sc,nf,V,x,z,F,B,d,⟨g1,g2,g3,g4,g5⟩,N,P,o,p,Q,r,S,rc,p1,p2⟩:=h;have k:=d.cp.au.below;have v:=ky (W:=W') (n:=K (U a)) E;have s:=qss (W:=W') (n:=K (U a)) E;have u:∀j,j<t0\/lo<=j->j<K (U a)->(NK W' (K (U a))).heap[j]?=a.heap[j]?:=λj ho f=>(s.block j E).symm.trans ((i j E).trans (k.block j f));have w:=p2.kept (W':=NK W' (K (U a))) λj k1 R=>u j E R;obtain⟨ra,ab,l,y⟩:=w.pru;injection l with l;subst l;refine⟨NK W' (K (U a)),A,q,aa,sa,sc,nf,V,x,z,F,B,⟨{d.cp with au:=d.cp.au.rebase v s (by rw[d.cp.ers];exact y) λj f=>i j (B3 (Yl d.cp.au f) (p j f))},?_,d.bs⟩,E,N.below ⟨m.1.trans k.os,m.2.1.trans k.tape,m.2.2.trans k.output,E,λj f=>u j (AF f) E⟩,(i L E).trans P,⟨PQ o.1 λj e=>i j (AG (AG (r▸e))),E,o.2.2⟩,p,Q,r,S,rc,p1,w⟩;exact d.bk.same (λg t=>by rw[v];exact t) λg t=>i g E
theorem q7p(c:CD)(w:X)(o:Gz w c)(f:Ic t0 w):Ar As 26 #[.agg c.arr] w λe g=>A0 w g/\((¬Df c=0/\e=Ak (Af #[Ad Ao,C Y (Df c)]))\/(Df c=0/\∃L,e=Ak (Af #[A8 L,C Y 0])/\JK c t0 (K (U w)) L (K (U g)) Ao [] g)):=by
 refine(qyy o f.gl (λh=>(LP h).b8)).mono ?_;rintro e g ⟨a,b⟩;refine⟨a,?_⟩;rcases b with b|⟨b,m,L,A,q,B,y,z,t,s,n,rfl,l,p,F,N,⟨r,x,u,v⟩,i⟩
 .exact AF b
 refine AG ⟨b,L,Z,m,A,q,B,y,z,t,s,n,Ao,0,0,i,⟨f.big.2,l,p,E,Co _⟩,?_,?_,Rf,λj k=>Yk i.cp.au k,En _,Z,r,x,u,v⟩
 .have d:=i.cp.au.below;refine f.below ⟨d.os.symm.trans a.os,d.tape.symm.trans a.tape,d.output.symm.trans a.output,l,λj k=>?_⟩;have:=f.big.2;rw[<-d.block j E];exact a.block j E
 grind [q2R,LP]
theorem qs6(a:∀q,q<9->V.heap[q]?=W.heap[q]?)(h:Lx W):Lx V:=by refine⟨h.u8.low a,⟨λu b=>K6 a B8 (h.hd.cb u b),λu b=>⟨K6 a B8 (h.hd.pk u b).1,K6 a B8 (h.hd.pk u b).2.1,K6 a B8 (h.hd.pk u b).2.2⟩⟩,?_⟩;have c:=a 8 E;have d:=h.big;grind
theorem kD(ck:Ld c){U:X}(a:Lx U)(hl:O l<=4097)(hb:Fi U fa l):Ar As 43 #[C Y (Ky c A bv).inF,Ag #[C Y (Ky c A bv).depth,C Y (Ky c A bv).bytes],T fa (O l) fc] U (Mc (kC c) U (DN c.inn l c.depth c.bytes)):=by have e:((c.bytes.toNat:I):J)=c.bytes:=OW kdZ;have h:=pC (cap:=fc) (d:=c.depth) (l:=c.bytes) ck.inn hb a BO BO E;rw[<-e]at h;rw[e]at h;unfold Ky;dsimp only;rw[e];exact h
def NL(c:CD)(fed bs:A1):A1:=fed++bs.take (c.bytes.toNat+1-At fed)
theorem q6Y(ck:Ld c)(h:JK c t0 lo L b fb fed W)(l:A4)(cap:I)(bs:A1)(hb:Fi W l bs)(ad:l=Ao->cap=0)(aa:O bs<=cap):Ar As 36 #[A8 L,T l (O bs) cap] W λe i=>e=Ak (C Y (OS (DN c.inn (NL c fed bs) c.depth c.bytes) (O (NL c fed bs))))/\Ds W i (λj=>(lo<=j/\j<b)\/fb=H j)/\∃n,JK c t0 lo L b n (NL c fed bs) i/\∀j,n=H j->fb=H j\/K (U W)<=j:=by
 obtain⟨w,A,q,ae,sa,sc,nf,mf,x,y,B,z,k,⟨g1,g2,N,P,g5⟩,d,p,r,s,Q,rfl,R⟩:=h;have ag:=ck.byt;have ab:O (NL c fed bs)<=c.bytes.toNat+1:=by grind [NL]
 have hf:=qxA (kC c) (Yj c A) (NL c fed bs) Z p r P hb ad aa (by show c.bytes.toNat<=4096;omega) Q (QL _ _ _ _ BO) (λaf m o V S=>kD ck (qs6 (λq hq=>(V q (AY d.big.1)).trans (k.cp.au.below.block q (AY d.big.1))) d.rd) E S);refine hf.mono ?_;rintro e i ⟨m,F,o,rfl,k1,k2,g,u,v,k6⟩;have ac:∀j,j<b->H j≠Ax (AX y B z):=λj a e=>AY (DK r.1 e.symm);have t:=λj a f=>v j E f (ac j a);exact⟨Z,⟨g.1,g.2.1,g.2.2,u,λj a f=>v j a (λe=>f E) λe=>f (AG e.symm)⟩,_,⟨w,A,q,ae,sa,sc,nf,mf,x,m,F,o,k.step N g u (λj a=>t j E E) (λj a=>t j (s j a) (kA k.cp.au p a)),E,d,k2,k1,s,ab,Z,R⟩,k6⟩
theorem qz1(hb:∃a b,bv=T a (O c.B) b)(e:A4)(g f:I)(d:AK):(Da (Ky c A bv) (T e g f) d).all (·.oneCell')=AP:=by obtain⟨a,b,rfl⟩:=hb;unfold Da Ky MJ;dsimp only;rw[RV,RV,RV,GQ];simp[Value.oneCell']
theorem kE{v:Aq}(h:Ck W b v l)(c:K (U W)<=K (U W'))(a:∀g,Ax v=H g->W'.heap[g]?=W.heap[g]?):Ck W' b v l:=⟨PQ h.1 a,Cy h.2.1 c,h.2.2⟩
theorem RO{v:Aq}(h:Ck W b v l){g:I}(e:Ax v=H g):g<K (U W):=by
 rcases h.1.2 with⟨a,_⟩|⟨f,c,d,a,_,i,_⟩
 .rw[a]at e;cases e
 rw[a]at e;injection e with e;grind
def q4L(c:CD)(lo L b:AH)(l:A1)(W:Ap)(e:Ending)(V':Ap):Prop :=
 ∃va vn vc,e=Ak (Af #[Ac va vn vc,.agg (CB (Q1 (Id c l))),Ab Al (OT (Id c l)),Ab Al (Q2 (Id c l))])/\Ds W V' (λj=>lo<=j/\j<b)/\V'.heap[L]?=An (Aj (Da G7 (Ac Ao 0 0) AP) 135)/\Um V' (Au (Av W)) (Ac va vn vc) (Id c l)
theorem q4R(ck:Ld c)(h:JK c t0 lo L b fb fed W):Ar As 38 #[A8 L] W (q4L c lo L b fed W):=by
 obtain⟨W0,A,q,V,R,S,nf,mf,w,s,fn,u,o,⟨g1,g2,a,g4,g5⟩,z,B,v,h6,h7,_⟩:=h;have aw:=ck.byt;have Q:0<=c.depth:=BO;have hL:=Cc B;have al:O fed<=4097:=E;obtain⟨ad,ae,x,av⟩:=PS v;injection x with e1 e2 e3;subst e1;subst e2;subst e3;have N:∀j,j<K (U W)->j≠L->(Gu W L (Ky c A w) (T s (O fed) u)).heap[j]?=W.heap[j]?:=λj ab b=>Yh ab b;have ax:=Un (W:=W) (L:=L) (g:=(Ky c A w)) (T s (O fed) u);have af:=kE v E (λg e=>N g (RO v e) (AY (DK v.1 e)));have F:=o.step a (qvz) E (λj f=>N j E E) (λj f=>N j (Yk o.cp.au f) (kA o.cp.au B f));have ag:=(z.below (F.cp.au.below.mono E)).rd;have ak:=kq (g:=(Ky c A w)) (T s (O fed) u) hL;have aj:=qrX (Xc A q (Ax (AX R (O V) S))) (kC c) (Yj c A) (qz1 o.bs s (O fed) u AQ) B (QL _ _ _ _ Q) (Id c fed)
  (λy m=>by obtain⟨ad,ae,x,ai⟩:=PS (Nf af m);injection x with e1 e2 e3;subst e1;exact kD ck (ag.below m) al ai)
  (λe he=>by unfold Id;rw[he])
  (λac P=>by
   refine⟨_,_,(by unfold Id;rw[P]),λar ap aq d an y m=>?_⟩;have ay:=vo Q P (k:=kC c);have l:=d.trans (m.mono d.size);have p:=F.step a ⟨l.os,l.tape,l.output⟩ l.size (λj f=>l.block j E) (λj f=>l.block j (Yk F.cp.au f));have ao:=an.same (λj f=>CK f.2 m.size) (λj f=>m.block j f.2);obtain⟨ba,bc,t⟩:=p.bs;have n:=p.cp.au.below.mono (Cy g1 g2);have am:∀i,E6 (Xc A q (Ax (AX R (O V) S))) y i->Below t0 W0 i:=λi hF=>⟨hF.world.1.trans n.os,hF.world.2.1.trans n.tape,hF.world.2.2.trans n.output,Cy n.size hF.rows.size,λj f=>(hF.block j (AY n.size) (kB λe=>AY (Yl p.cp.au e))).trans (n.block j f)⟩
   refine qsg (Xc A q (Ax (AX R (O V) S))) (Yj c A) ((l.block _ E).trans ak) ap aq t (q3J ck.b8 ck.b6) (qzv ck.out (Cy (XS (Y9 (Ri Q P (kC c)).2)) (AY (XR (G8 c) (kC c) ac (0,0,0,0))))) (λi hF=>?_) (λi hF=>z.up (am i hF)) (λU' ah=>q0P ck p z ah ao E);have aa:=p.bk;rw[t]at aa;exact qyM (aa.kept (λ_ hg=>hg) hF.rows B8 B8 B8))
 refine aj.mono ?_;rintro e i ⟨va,vn,vc,rfl,r,k2,k3⟩;exact⟨va,vn,vc,Z,⟨r.world.1,r.world.2.1,r.world.2.2,r.size,λj f hn=>r.block j f (λe=>hn E) (kB λe=>hn ⟨AY (Yl o.cp.au e),h6 j e⟩)⟩,k2,k3⟩
theorem q6J(ck:Ld c)(a:A1):OS (DN c.inn (a.take (c.bytes.toNat+1)) c.depth c.bytes) (O (a.take (c.bytes.toNat+1)))=Ui (DN c.inn a c.depth c.bytes) (O a):=by
 have b:0<=c.depth:=BO;have g:0<=c.bytes:=kdZ;rw[<-fF c.inn a c.depth c.bytes b g];rcases h:DN c.inn (a.take (c.bytes.toNat+1)) c.depth c.bytes with f|d
 .obtain⟨k,e⟩:=f;show(if e=_ then _ else _)=if e<_ then _ else _;by_cases i:e=(O (a.take (c.bytes.toNat+1)):J)
  .rw[Cn i,Ci];by_cases j:c.bytes.toNat<O a
   .obtain⟨l,o,m,n⟩:=fE (fm:=c.inn) b g j;grind
   grind
  have:=fD [] b h i;grind
 rfl
theorem qyf(h:Df c=0)(z:Gz V c)(A : -9223372036854775808<=c.key/\c.key<=9223372036854775807):Ar As 64 #[.agg c.arr] V λe f=>∃a m d x,e=Ak (Af #[T a m d,C Y x])/\A0 V f/\∀P,K (U f)<=P->MG ⟨G8 c,f,P,c.arr,a,m,d⟩:=by
 have ck:=LP h;obtain⟨k,b⟩:=TV (q57 h);refine(jW k.symm (w:=V)).mono ?_;rintro e f ⟨a,m,d,rfl,q,F⟩;obtain⟨N,Q,g,u⟩:=(F (qwM h)).at_;injection g with g e2 e3;subst g;subst e2;subst e3;have R:=jd (Uk h);have r:c.clr.toNat<c.labels.toNat:=AY ck.clr;refine⟨_,_,_,_,Z,q,λP j=>⟨Z,?_,Z,A,j,λp=>?_,λs S W L v j k=>qpG c.arr c.dflt Z d L (u.below v) j k E (λi h=>B9)⟩⟩
 .show H (Value.int Y c.clr)=H (C Y (c.clr.toNat:J));rw[OW ck.clr.1]
 obtain⟨l,t,o⟩:=Yi (dflt:=c.dflt) (n:=c.labels.toNat) ⟨c.dflt.toNat,AY ck.dfl,AY ck.dfl⟩ (Gv c) (kz ck.pol) p;refine⟨l,t,AY ck.lab,λs y=>?_⟩;have B:=iz b.hE o r;have:=Zl b.cfg b.hn b.hL b.hE o r ((z.edges.below q).below y);rw[<-B]at this;exact this
structure Gr where
 c:CD
 lo:Nat
 L:Nat
 b:Nat
 G:Nat
 fb:Option Nat
 pl:A1
 cp:Bool
 all:A1
 cl:Bool
def Gr.blk(r:Gr)(j:AH):Prop:=(r.lo<=j/\j<r.b)\/r.fb=An j\/j=r.G
structure Em(w:World)(r:Gr)(W:World):Prop where
 chk:Df r.c=0
 cfg:Gz w r.c
 key : -9223372036854775808<=r.c.key/\r.c.key<=9223372036854775807
 low:w.heap.size<=r.lo/\r.lo<=r.L/\r.L<r.b/\r.b<=r.G
 fbs:∀j,r.fb=some j->r.b<=j/\j<W.heap.size/\j≠r.G
 gt:r.cp=false->JK r.c w.heap.size r.lo r.L r.b r.fb (r.pl.take (r.c.bytes.toNat+1)) W
 sh:r.cp=true->W.heap[r.L]?=some (.cells (Da G7 (.slice none 0 0) true) 135)
 ref:W.heap[r.G]?=some (.cells (DF r.c.arr r.all r.cl) 72)
theorem Em.lt{r:Gr}(h:Em w r W)(a:j<K (U w)\/r.blk j):j<K (U W)/\(r.blk j->K (U w)<=j):=by
 have b:=h.low;have c:=Cc h.ref;unfold Gr.blk;rcases a with a|a|a|rfl
 .exact⟨E,λd=>by have:=h.fbs j;grind⟩
 .omega
 .have:=h.fbs j a;omega
 omega
theorem Em.keep{w W W':Ap}{r:Gr}{X:I->Prop}(h:Em w r W)(hF:Ds W W' X)(c:∀j,j<K (U w)\/r.blk j->¬X j):Em w r W':=by
 have b:=λj a=>hF.block j (h.lt a).1 (c j a);have d:=h.low;have f:=hF.size;exact{h with
  fbs:=λj a=>AY (h.fbs j a)
  gt:=λe=>(h.gt e).keep ⟨hF.os,hF.tape,hF.output⟩ hF.size λj a=>b j (a.imp_right λa=>a.imp_right .inl)
  sh:=λe=>(b _ (AG (AF ⟨E,E⟩))).trans (h.sh e)
  ref:=(b _ (AG (AG (AG rfl)))).trans h.ref}
theorem Em.next{w W W':Ap}{r:Gr}(h:Em w r W)(a:A0 W W'):Em w r W':=h.keep (X:=λ_=>False) (Ls a) λ_ _=>id
theorem qt4(c:CD)(l bs:A1):NL c (l.take (c.bytes.toNat+1)) bs=(l++bs).take (c.bytes.toNat+1):=by grind [NL,List.take_append]
def Ym(r:Gr)(s:A1):AI:=bif r.cp then 15 else OS (DN r.c.inn ((r.pl++s).take (r.c.bytes.toNat+1)) r.c.depth r.c.bytes) (At ((r.pl++s).take (r.c.bytes.toNat+1)))
def Uo(r:Gr)(s:A1):AI:=bif r.cl then 15 else Ui (DN r.c.inn (r.all++s) r.c.depth r.c.bytes) (At (r.all++s))
def Q4(r:Gr):Cz:=bif r.cp then .error (15,0)else Id r.c (r.pl.take (r.c.bytes.toNat+1))
def Kz(r:Gr):Cz:=bif r.cl then .error (15,0)else Id r.c r.all
theorem qxu{r:Gr}(h:Em w r V){g:I}{s:A1}(cap:I)(hb:Fi V (Aa g) s)(p:O s<=cap):Ar As 36 #[A8 r.L,T (Aa g) (O s) cap] V λe a=>e=Ak (C Y (Ym r s))/\Ds V a r.blk/\∃fb,Em w {r with fb:=fb,pl:=bif r.cp then r.pl else r.pl++s} a/\∀j,fb=H j->r.fb=H j\/K (U V)<=j:=by
 have ck:=LP h.chk;have B:=h.low;have o:=Cc h.ref;have A:=h.fbs;obtain⟨c,F,L,b,t,k,pl,i,u,v⟩:=r;cases i
 .refine(q6Y ck (h.gt Z) _ cap s hb nofun p).mono ?_;rw[qt4];rintro e a ⟨rfl,d,fb,f,q⟩;have n:=d.block _ o λe=>B9;refine⟨Z,M9 d (λj e=>e.imp_right .inl),fb,{h with fbs:=λj e=>?_,gt:=λ_=>f,sh:=nofun,ref:=n.trans h.ref},q⟩
  .obtain⟨_,_,_,_,_,_,_,_,_,x,z,y,_,_,_,_,l,_,_,m,_⟩:=f;have:=RO l (m.trans e);grind
 refine(qp3 V L G7 Ul (T Ao 0 0) _ (h.sh Z)).mono ?_;rintro e a ⟨rfl,rfl⟩;exact⟨Z,.refl _ _,k,h,λj e=>AF e⟩
theorem kF{V':X}{r:Gr}(h:Em w r V){al:A1}{x:AK}(a:Cg r.G V V')(d:A7 V' r.G (DF r.c.arr al x) 72):Ds V V' r.blk/\Em w {r with all:=al,cl:=x} V':=by
 have g:=h.low;have hF:Ds V V' (λj=>j=r.G):=⟨a.os,a.tape,a.output,a.size,a.block⟩
 refine⟨M9 hF λj e=>AG (AG e),{h with fbs:=λj e=>?_,gt:=λe=>(h.gt e).keep ⟨a.os,a.tape,a.output⟩ a.size λj b=>?_,sh:=λe=>(a.block _ ?_ ?_).trans (h.sh e),ref:=d}⟩
 .have f:=h.fbs j e;have:=a.size;grind
 .have:=h.lt (j:=j) (b.imp_right λb=>b.imp_right .inl);refine a.block j this.1 ?_;rcases b with b|b|b
  .omega
  .omega
  exact(h.fbs j b).2.2
 .exact Nat.lt_trans (show r.L<r.G by omega) (Cc h.ref)
 grind
theorem qz2{r:Gr}(h:Em w r V){s:A1}(f:O (r.all++s)<=200000000):Ar As 37 #[A8 r.G,Ae ⟨Aw s⟩] V λe a=>e=Ak (C Y (Uo r s))/\Ds V a r.blk/\Em w {r with all:=bif r.cl then r.all else r.all++s} a:=by
 have ck:=LP h.chk;have n:=ck.dep;have m:=ck.byt;obtain⟨c,o,L,b,j,l,p,k,all,d⟩:=r;cases d
 .refine(qwy Z Z Z Z h.ref ck.inn E E E E f).mono ?_;rintro e a ⟨rfl,g,i⟩;exact⟨Z,kF h g i⟩
 refine((jR Z h.ref).1).mono ?_;rintro e a ⟨rfl,rfl⟩;exact⟨Z,.refl _ _,h⟩
theorem qwe{r:Gr}(h:Em w r V):Ar As 38 #[A8 r.L] V λe a=>∃d g f,e=Ak (Af #[T d g f,.agg (CB (Q1 (Q4 r))),C Y (OT (Q4 r)),C Y (Q2 (Q4 r))])/\Ds V a r.blk/\Em w {r with fb:=Ao,cp:=AP} a/\Um a (K (U V)) (T d g f) (Q4 r):=by
 have ck:=LP h.chk;have t:=h.low;have l:=Cc h.ref;obtain⟨c,u,L,b,o,s,v,cp,p,q⟩:=r;cases cp
 .refine(q4R ck (h.gt Z)).mono ?_;rintro e a ⟨d,g,f,rfl,k,m,n⟩;exact⟨_,_,_,Z,M9 k λj e=>AF e,{h with fbs:=nofun,gt:=nofun,sh:=λ_=>m,ref:=(k.block _ l λe=>E).trans h.ref},n⟩
 refine(qmW V L G7 Ul (T Ao 0 0) (h.sh Z)).mono ?_;rintro e a ⟨rfl,i⟩;exact⟨_,_,_,rfl,Ls i,{h.next i with fbs:=nofun,gt:=nofun},rfl⟩
theorem qu8{r:Gr}(h:Em w r V)(g:A0 w V)(j:O r.all<=200000000):Ar As 39 #[A8 r.G] V λe a=>e=Ak (Af #[Ae ⟨Aw (MK (Kz r))⟩,.agg (CB (Q1 (Kz r))),C Y (OT (Kz r)),C Y (Q2 (Kz r))])/\Ds V a r.blk/\Em w {r with cl:=AP} a:=by
 have q:=h.low;obtain⟨c,s,L,b,m,p,t,o,n,cl⟩:=r;cases cl
 .refine(qrZ (LP h.chk) h.ref j λa i=>?_).mono ?_
  .have f:=h.cfg.below (g.trans (i.low E g.size));exact⟨f.ints,qyf h.chk f h.key⟩
  rintro e a ⟨rfl,k,l⟩;exact⟨Z,kF h k l⟩
 refine((jR (b:=[]) Z h.ref).2).mono ?_;rintro e a ⟨rfl,d⟩;exact⟨rfl,Ls d,h.next d⟩
theorem Ds.andThen{W V:Ap}{X Y:I->Prop}(h:Ds W V X)(k:Ds V V' Y)(hx:∀j,j<K (U W)->Y j->X j):Ds W V' X:=⟨k.os.trans h.os,k.tape.trans h.tape,k.output.trans h.output,Cy h.size k.size,λj a b=>(k.block j (CK a h.size) λe=>b (hx j a e)).trans (h.block j a b)⟩
theorem Cg.frm{g:I}(k:Cg g W V):Ds W V (λj=>j=g):=⟨k.os,k.tape,k.output,k.size,k.block⟩
structure Yn(n:Nat)(r r':Gr)(m:Nat):Prop where
 L:r'.L=r.L
 G:r'.G=r.G
 both:r'.pl=r'.all/\r'.cp=r'.cl
 len:r'.all.length<=m
 blk:∀j,r'.blk j->r.blk j\/n<=j
theorem q35{r:Gr}(h:Df r.c=0)(a:r.pl=r.all/\r.cp=r.cl)(s:A1):Ym r s=Uo r s:=by grind [Ym,Uo,q6J,LP]
theorem q25{r:Gr}(h:Df r.c=0)(a:r.pl=r.all/\r.cp=r.cl):Q4 r=Kz r:=by have ck:=LP h;unfold Q4 Kz Id;rw[a.1,a.2,fF _ _ _ _ BO kdZ]
def Ez(r:Gr):A3:=#[A8 r.L,A8 r.G]
theorem q1m{r:Gr}(h:Em w r W)(A:r.pl=r.all/\r.cp=r.cl){s:A1}(B:O (r.all++s)<=200000000):Ar As 14 #[.agg (Ez r),Ae ⟨Aw s⟩] W λe u=>e=Ak (Ah AP)/\Ds W u r.blk/\∃N,Em w N u/\Yn (K (U W)) r N (O (r.all++s)):=by
 have F:O s<=200000000:=by simp at B;omega
 obtain⟨l,p⟩:=CA (Uo r s);have HP:D (∀(V:X) (g:I),Em w r V->A7 V g (Is (s++J0)) 5->Ar As 36 #[A8 r.L,T (Aa g) (O s) (O s+8)] V λe a=>e=Ak (C Y l)/\Ds V a r.blk/\∃fb,Em w {r with fb:=fb,pl:=bif r.cp then r.pl else r.pl++s} a/\∀j,fb=H j->r.fb=H j\/K (U V)<=j):=λV g y hb=>by rw[<-AE p,<-q35 h.chk A];grind [qxu,qtC]
 have HR:D (∀(V:X) (fb:Option I),Em w {r with fb:=fb,pl:=bif r.cp then r.pl else r.pl++s} V->Ar As 37 #[A8 r.G,Ae ⟨Aw s⟩] V λe a=>e=Ak (C Y l)/\Ds V a (Gr.blk {r with fb:=fb,pl:=bif r.cp then r.pl else r.pl++s})/\Em w {r with fb:=fb,pl:=bif r.cp then r.pl else r.pl++s,all:=bif r.cl then r.all else r.all++s} a):=λV fb y=>by rw[<-AE p];exact qz2 y B
 have t:D ((Az W (M (Ez r) 47)).heap[K (U W)]?=H (M (Ez r) 47)):=Cj _;have m:D (A0 W (Az W (M (Ez r) 47))):=Cl;have HZ:D (K (U (Az W (M (Ez r) 47)))=K (U W)+1):=CI _ _;have HG:=G h;have am:=G A;have al:D (∀j,r.blk j->j<K (U W)):=λj e=>(h.lt (AG e)).1;have ae:=G F;have af:D (K (U w)<=K (U W)):=by have:=h.low;have:=Cc h.ref;show _<=_;omega
 have cL:=λV=>og V F;unfold Ez at *;go_enter func14,ntmps14
 go_wp2_with fail
 generalize Az W _=W1 at *;refine(cL _).mono ?_;rintro e k ⟨rfl,z,v⟩;have n:=G (m.trans (v.mono m.size));have aa:=G z;have f:=G ((v.block _ (Cc t)).trans t);have k0:=Cb f 0;have cP:=HP.out k _ (HG.next n) z;have b:D (K (U W)+1<K (U k)):=by grind [D]
 rw[AE HZ]at *
 go_wp2_with fail
 refine cP.mono ?_;rintro e w3 ⟨rfl,d,fb,aj,ai⟩;have ag:=G ((d.block _ (Cc f) λe=>by grind [D]).trans f);have ab:=G ((d.block _ b λe=>by grind [D]).trans aa);have Q:=G ((Ls n).next d);have ad:=G d.size;have S:=G ai;have k1:=Cb ag 1;have cR:=HR.out w3 fb aj
 go_wp2_with fail
 refine cR.mono ?_;rintro e w4 ⟨rfl,x,ak⟩;have q:D (∀j,Gr.blk {r with fb:=fb,pl:=bif r.cp then r.pl else r.pl++s} j->r.blk j\/K (U k)<=j):=λj e=>by
  rcases e with e|e|e
  .exact AF (AF e)
  .exact(S j e).imp_left λe=>AG (AF e)
  exact AF (AG (AG e))
 have ac:=G ((x.block _ (CK b ad) λe=>by grind [D]).trans ab);have R:=G (Q.andThen x λj i e=>by grind [D]);have P:=G ak;have cW:=om ac ae
 go_wp2_with(first|(go_at_call 21;refine cW.mono ?_;rintro e w5 ⟨rfl,ah⟩;have o:=G ah.frm))
 go_ret;refine⟨Z,R.andThen o λj i e=>E,_,P.keep o λj i e=>?_,⟨Z,Z,?_,?_,λj e=>?_⟩⟩
 .have h2:=AE b;have h3:=AE af;rcases i with c|c
  .omega
  rcases q.out _ c with c|c<;>grind [D]
 .grind [D]
 .cases r.cl<;>simp
 exact(q j e).imp_right λh=>AY (AE b)
theorem q4e{va:A4}{vn vc:I}{z:Cz}(h:Um V base (T va vn vc) z)(hb:base<=K (U V)):vn=O (MK z)/\Ck V base (T va (O (MK z)) vc) (MK z)/\(va.isNone=AP\/OT z=0):=by
 have nil:AX va vn vc=T Ao 0 0->vn=0/\Ck V base (T va 0 vc) []/\va.isNone=AP:=λe=>by injection e with e1 e2 e3;subst e1;subst e3;exact⟨e2,⟨Fa _ _ _ _,hb,_,_,_,Z⟩,Z⟩
 match z,h with
 |.ok (_,.ok l),h =>
  obtain⟨a,c,e⟩:=QV (show Ck V base _ l from h).1;injection e with e1 e2 e3;subst e2;exact⟨Z,h,AG Z⟩
 |.ok (_,.error _),h=>exact⟨(nil h).1,(nil h).2.1,AF (nil h).2.2⟩
 |.error _,h=>exact⟨(nil h).1,(nil h).2.1,AF (nil h).2.2⟩
theorem kG:∀{B:AJ J},(∀x∈B,x<=65536)->Kv fm bs B=H l->O l<=O bs+65536
 |[],_,h=>Bo
 |y::B,hb,h=>by
  have b:=hb y (LR ..);rw[Kv]at h;split at h
  .grind
  exact kG (λx a=>hb x (Le _ a)) h
theorem q2J(ck:Ld c)(W:X)(hl:O l<=200000000):O (MK (Id c l))<=200000000:=by
 have o:=ck.dep;have n:=ck.byt;have b:=XU W c.depth c.bytes (bs:=l) ck.inn E E E E hl;unfold Id kC;generalize hD:DN c.inn l c.depth c.bytes=D at *;obtain f|a:=D
 .exact En _
 dsimp only;have d:DA (c.depth.toNat+1) a<=1638400/\EX (c.depth.toNat+1) a:=pD b λe p h=>⟨B3 ((Ri E hD (c.depth.toNat+1)).1) h.2.2,(Ri E hD _).2⟩
 have k:=XR (G8 c) (c.depth.toNat+1) a (0,0,0,0);have m:=XS (fm:=c.out) (Y9 (c:=G8 c) (R:=(0,0,0,0)) d.2);generalize(CW (G8 c) (c.depth.toNat+1) [] a (0,0,0,0)).1.getD .nil=d2 at *;rcases h3:Lc c.out (c.depth.toNat+1) d2 c.B with e|s
 .exact En _
 show O s<=_;unfold Lc IG at h3;split at h3
 .cases h3
 split at h3
 .cases h3
 next h4 =>
 injection h3 with h3;subst h3;split at h4
 .grind
 have:=kG (λx j=>by obtain⟨i,g,rfl⟩:=YK.1 j;exact ck.b6 i g) h4;omega
theorem q1P{r:Gr}(h:Df r.c=0)(W:X)(hl:O r.all<=200000000):O (MK (Kz r))<=200000000:=by
 unfold Kz;cases r.cl
 .exact q2J (LP h) W hl
 simp[MK]
theorem q5s(R:Cu)(w:X):(binOp .eql 82 (.agg (CB R)) (.agg (CB R))).run As w=.ok (Ah AP) w:=by unfold CB;go_simp
theorem qsO{r:Gr}(h:Em w r W)(hp:r.pl=r.all/\r.cp=r.cl)(hw:A0 w W)(hs:O r.all<=200000000){M:I}{xs:AJ Aq}(hl:FC W B b0 cs gv la lcap M xs)(hM:M<=100000000)(hB:K (U w)<=B/\K (U w)<=b0/\b0<=K (U W))(hx:∀j,r.blk j->j≠B/\¬IS la lcap M xs j):Ar As 15 #[A8 B,.agg (Ez r)] W λe S=>e=Ak (Ah AP)/\Ds W S (λj=>r.blk j\/j=B\/Ax (AX la (4*M) lcap)=H j)/\(∃y z A,FC S B b0 cs gv y z (M+1) A/\∀j,IS y z (M+1) A j->IS la lcap M xs j\/K (U W)<=j)/\∃r',Em w r' S/\∀bg,Yn bg r r' (O r.all):=by
 obtain⟨R,a7⟩:=CA (Q1 (Kz r));obtain⟨F,HE⟩:=CA (OT (Kz r));obtain⟨ak,a5⟩:=CA (Q2 (Kz r));obtain⟨l,HL⟩:=CA (MK (Kz r));have an:=q1P h.chk W hs;rw[AE HL]at an;have HP:D (∀V:X,Em w r V->Ar As 38 #[A8 r.L] V λe k=>∃d m,e=Ak (Af #[T d (O l) m,.agg (CB R),C Y F,C Y ak])/\Ds V k r.blk/\Em w {r with fb:=Ao,cp:=AP} k/\Ck k (K (U V)) (T d (O l) m) l/\(d.isNone=AP\/F=0)):=λV P=>(qwe P).mono (by rw[q25 h.chk hp];rintro e k ⟨d,vn,m,rfl,k1,k2,k3⟩;obtain⟨rfl,h4,h5⟩:=q4e k3 k1.size;grind [D]);have HR:D (∀V:X,Em w {r with fb:=Ao,cp:=AP} V->A0 w V->Ar As 39 #[A8 r.G] V λe k=>e=Ak (Af #[Ae ⟨Aw l⟩,.agg (CB R),C Y F,C Y ak])/\Ds V k (Gr.blk {r with fb:=Ao,cp:=AP})/\Em w {r with fb:=Ao,cp:=AP,cl:=AP} k):=λV P hw=>by rw[<-AE a7,<-AE HE,<-AE a5,<-AE HL];exact qu8 P hw hs
 have Q:D ((Az W (Aj (Ez r) 47)).heap[K (U W)]?=H (Aj (Ez r) 47)):=Cj _;have HB:D (A0 W (Az W (Aj (Ez r) 47))):=Cl;have HZ:D (K (U (Az W (Aj (Ez r) 47)))=K (U W)+1):=CI _ _;have HG:=G h;have a6:=G hp;have u:D (∀j,r.blk j->K (U w)<=j/\j<K (U W)/\j≠B/\¬IS la lcap M xs j):=λj e=>⟨(h.lt (AG e)).2 e,(h.lt (AG e)).1,hx j e⟩
 have q:=G hl;have N:=G hw;have ar:=G hB;have af:=G an;have k0:=Cb Q 0;unfold Ez at *;go_enter func15,ntmps15
 go_wp2_with fail
 generalize Az W _=W1 at *;have cP:=HP.out W1 (HG.next HB);refine cP.mono ?_;rintro e b ⟨d,m,rfl,al,bc,v,ba⟩;have f:=G ((Ls HB).next al);have aj:=G ((al.block _ (Cc Q) λe=>by grind [D]).trans Q);rw[AE HZ]at v;have ah:D (K (U W)+1<=K (U b)):=by grind [D]
 have ay:=G bc;have x:=G v;have aw:=G ba;have bj:D (∀g,Ax (AX d (O l) m)=H g->g<K (U b)):=λg e=>RO v e;have o:D (A0 b (Az b (Aj (CB R) 82))):=Cl;have a8:=G ((o.block _ (Cc aj)).trans aj);have ab:D ((Az b (Aj (CB R) 82)).heap[K (U b)]?=H (Aj (CB R) 82)):=Cj _;have k1:=Cb a8 1;have cR:=HR.out (Az b (Aj (CB R) 82)) (ay.next o) (N.trans ⟨f.os,f.tape,f.output,f.size,λj a=>f.block j (CK a N.size) λe=>by grind [D]⟩ |>.trans (o.mono (Cy N.size f.size)))
 go_wp2_with(first
  |(refine Db Z 82 _ _ Z (K (U b)) (CB R) Z Z 82 _ (Cj b) F2 Z Bq ?_;rw[IT])
  |fail)
 generalize Az b _=w3 at *;refine cR.mono ?_;rintro e c ⟨rfl,n,bd⟩;have p:D (∀j,Gr.blk {r with fb:=Ao,cp:=AP} j->r.blk j):=λj e=>by
  rcases e with e|e|e
  .exact AF e
  .cases e
  exact AG (AG e)
 have bm:=n.size;have bb:=o.size;have ao:∀j,K (U W)<=j->j<K (U w3)->c.heap[j]?=w3.heap[j]?:=λj i s=>n.block j s λe=>by grind [D]
 have ax:=G ((f.next (Ls o)).andThen n λj _ e=>p.out j e);have ac:=G ((ao _ (AY (AE ah)) (Cc ab)).trans ab);have a4:=G (kE x E λg e=>(ao g (AY (DK x.1 e)) (CK (RO x e) bb)).trans (o.block g (RO x e)));have az:=G bd;have ai:=G (Cc ac);have t:D (A0 c (Az c (Aj (CB R) 82))):=Cl;have ap:D ((Az c (Aj (CB R) 82)).heap[K (U c)]?=H (Aj (CB R) 82)):=Cj _;have ad:=G (ax.next (Ls t));have ae:=G (q.kept ad λj a e=>by grind [u.out j e]);have ag:=G (Nf a4 t);have au:=G ((t.block _ ai).trans ac);have a0:=G (az.next t);have a9:D (K (U (Az c (Aj (CB R) 82)))=K (U c)+1):=CI _ _
 go_wp2_with(first
  |(refine Db Z 82 _ _ Z (K (U c)) (CB R) Z Z 82 _ (Cj c) F2 Z Bq ?_;rw[IT])
  |fail)
 generalize Az c _=w5 at *;have aa:∀j,IS la lcap M xs j->j<K (U W):=λj a=>by
  rcases a with a|⟨bf,bh,i,s⟩
  .exact Ek q.wd.row a
  exact(q.dis bf bh j i s).2.1
 have bl:=Cc q.wd.wd;refine(qP ae.wd (base:=K (U W)+1) E (λg e=>AY (aa g (AF e))) (by grind [D]) (by grind [D]) E ag af aw).mono ?_;rintro e w6 ⟨rfl,bk,bq,a1,c1,a2,c2,a3,c3,hk⟩;have am:∀j,K (U W)+1<=j->j<K (U w5)->Ax (AX d (O l) m)≠H j->w6.heap[j]?=w5.heap[j]?:=λj i s h3=>hk.frm.block j s λe=>by
  rcases e with e|e|e|e
  .omega
  .have:=aa j (AF e.symm);omega
  .exact h3 e.symm
  omega
 have be:=AE ah;have bo:=AE ai;have bp:=AE a9;have av:=G ((am _ be E λe=>by grind [D]).trans au);have aq:=G ((am _ E E λe=>by grind [D]).trans ap);have HK:=G hk;have bi:=G aa;have hq:=q5s R
 go_wp2_with(first
  |(refine EU Z ?hw Z av underlying82 Z F2 ?_;case hw=>simp[go_sem];done)
  |(refine EU Z ?hw Z aq underlying82 Z F2 ?_;case hw=>simp[go_sem];done))
 go_ret;have hF:=HK.frm;have ho:∀j,H j=Ax (AX d (O l) m)->K (U W)+1<=j:=λj e=>DK ag.1 e.symm;obtain⟨y,z,A,f1,f2⟩:=q46 ae (λj a=>by grind [D]) rfl af HK;refine⟨Z,(M9 ad λj e=>AF e).andThen hF λj a e=>?_,⟨y,z,A,f1,λj e=>(f2 j e).imp_right λh=>E⟩,_,a0.keep hF λj a e=>?_,λ_=>⟨Z,Z,⟨a6.1,Z⟩,Co _,λj e=>AF (p j e)⟩⟩
 .grind
 have hB:=AE ar;have bn:j<K (U W):=by
  rcases a with a|a
  .omega
  exact(u j (p j a)).2.1
 rcases e with e|e|e|e
 .rcases a with a|a
  .omega
  exact(u j (p j a)).2.2.1 e
 .rcases a with a|a
  .have:=DK q.wd.row e.symm;omega
  exact(u j (p j a)).2.2.2 (AF e.symm)
 .have:=ho j e;omega
 omega
structure Ie(w:World)(cs:Value)(W:World)(S M:Nat)(rs:List Gr)(ga:A4)(gcap:Nat)(la:A4)(lcap:Nat)(xs:List Value):Prop where
 below:A0 w W
 ls:FC W w.heap.size w.heap.size cs (.slice ga rs.length gcap) la lcap M xs
 row:W.ownsRow w.heap.size 47 2 (.slice ga rs.length gcap) rs.length (rs.flatMap λr=>(Ez r).toList)
 gt:∀(i:Nat) (r:Gr),rs[i]?=some r->Em w r W/\(r.pl=r.all/\r.cp=r.cl)/\r.all.length<=S
 dis:∀(i k:Nat) (r r':Gr),rs[i]?=some r->rs[k]?=some r'->i≠k->∀j,r.blk j->¬r'.blk j
 out:∀(i:Nat) (r:Gr),rs[i]?=some r->∀j,r.blk j->j≠w.heap.size/\¬IS la lcap M xs j/\(Value.slice ga rs.length gcap).ownBlock≠some j
 gvo:∀j,(Value.slice ga rs.length gcap).ownBlock=some j->j≠w.heap.size/\¬IS la lcap M xs j
theorem Ie.next{M:I}{rs:AJ Gr}{xs:AJ Aq}(h:Ie w cs W S M rs ga gcap la lcap xs)(a:A0 W W')(c:S<=S'):Ie w cs W' S' M rs ga gcap la lcap xs :=
 {h with
  below:=h.below.trans (a.mono h.below.size)
  ls:=h.ls.next a
  row:=Oo h.row λj e=>a.block j (Ek h.row e)
  gt:=λi r b=>⟨(h.gt i r b).1.next a,(h.gt i r b).2.1,Cy (h.gt i r b).2.2 c⟩}
theorem FC.lt{M:I}{xs:AJ Aq}(h:FC V B b0 cs gv la lcap M xs)(a:IS la lcap M xs j):j<K (U V):=by
 rcases a with a|⟨i,v,b,c⟩
 .exact Ek h.wd.row a
 exact(h.dis i v j b c).2.1
theorem q13{rs:AJ Gr}{r r':Gr}(hi:rs[i]?=H r)(b:r'.L=r.L)(a:r'.G=r.G):(rs.set i r').flatMap (λr=>(Ez r).toList)=rs.flatMap λr=>(Ez r).toList:=by
 have e:Ez r'=Ez r:=by unfold Ez;rw[b,a]
 rw[Z5,Z5,List.map_set,e];congr 1;apply UD;intro k;grind
theorem Ie.upd{M M':I}{rs:AJ Gr}{la':A4}{lcap':I}{xs xs':AJ Aq}(h:Ie w cs W S M rs ga gcap la lcap xs){r r':Gr}(hi:rs[i]?=H r)(hF:Ds W W' (λj=>r.blk j\/j=K (U w)\/Ax (AX la (4*M) lcap)=H j))(A:Em w r' W')(g:Yn (K (U W)) r r' S')(z:S<=S')(N:FC W' (K (U w)) (K (U w)) cs (T ga (O rs) gcap) la' lcap' M' xs')(x:∀j,IS la' lcap' M' xs' j->IS la lcap M xs j\/K (U W)<=j)(P:∀j,r'.blk j->¬IS la' lcap' M' xs' j):Ie w cs W' S' M' (rs.set i r') ga gcap la' lcap' xs':=by
 have y:=h.gt i r hi;have hw:=h.below.size;have v:∀j,j<K (U w)->¬(r.blk j\/j=K (U w)\/Ax (AX la (4*M) lcap)=H j):=λj d e=>by
  rcases e with e|e|e
  .have:=(y.1.lt (AG e)).2 e;omega
  .omega
  have:=DK h.ls.wd.row e;omega
 have p:O (rs.set i r')=O rs:=List.length_set;have o:∀{k:I} {q:Gr},(rs.set i r')[k]?=H q->(k=i/\q=r')\/(k≠i/\rs[k]?=H q):=λ{k q} f=>B9;have V:∀{k:I} {q:Gr},k≠i->rs[k]?=H q->∀j,r'.blk j->¬q.blk j:=λ{k q} f b j s a=>by
  rcases g.blk j s with e|e
  .exact h.dis i k r q hi b (Ne.symm f) j e a
  have:=((h.gt k q b).1.lt (AG a)).1;omega
 refine⟨h.below.trans ⟨hF.os,hF.tape,hF.output,hF.size,λj d=>hF.block j E (v j d)⟩,by rw[p];exact N,?_,λk q f=>?_,λk l q R f F B j s a=>?_,λk q f j e=>?_,λj e=>?_⟩
 .rw[p,q13 hi g.L g.G];refine Oo h.row λj e=>hF.block j (Ek h.row e) λa=>?_;have:=h.gvo j e;rcases a with a|a|a
  .exact(h.out i r hi j a).2.2 e
  .exact this.1 a
  exact this.2 (AF a)
 .rcases o f with⟨rfl,rfl⟩|⟨u,b⟩
  .exact⟨A,g.both,g.len⟩
  have t:=h.gt k q b;refine⟨t.1.keep hF λj d e=>?_,t.2.1,Cy t.2.2 z⟩;rcases d with d|d
  .exact v j d e
  have c:=h.out k q b j d;rcases e with e|e|e
  .exact h.dis k i q r b hi u j d e
  .exact c.1 e
  exact c.2.1 (AF e)
 .rcases o f with⟨rfl,rfl⟩|⟨u,b⟩
  .grind
  rcases o F with⟨rfl,rfl⟩|⟨aa,Q⟩
  .grind
  exact h.dis k l q R b Q B j s a
 .rw[p];rcases o f with⟨rfl,rfl⟩|⟨u,b⟩
  .refine⟨?_,P j e,λa=>?_⟩
   .rcases g.blk j e with m|m
    .exact(h.out k r hi j m).1
    have:=Cc h.ls.wd.wd;omega
   rcases g.blk j e with m|m
   .exact(h.out k r hi j m).2.2 a
   have:=Ek h.row a;omega
  have c:=h.out k q b j e;refine⟨c.1,λa=>?_,c.2.2⟩;rcases x j a with n|n
  .exact c.2.1 n
  have:=((h.gt k q b).1.lt (AG e)).1;omega
 rw[p]at e;have c:=h.gvo j e;refine⟨c.1,λa=>?_⟩;rcases x j a with n|n
 .exact c.2 n
 have:=Ek h.row e;omega
theorem Tryz.infoPair:(prog.info? 47).map (λi=>(i.zero,i.size,i.bytes))=H (H (Ag #[Ad Ao,Ad Ao]),2,16):=B6
theorem q1u(h:JK (c.lent V) t0 lo L b fb fed W):JK c t0 lo L b fb fed W:=by obtain⟨d,A,q,o,m,n,l,k,e,f,i,g,a,j⟩:=h;exact⟨d,A,q,o,m,n,l,k,e,f,i,g,⟨a.cp,a.bk,a.bs⟩,j⟩
theorem Ie.more{M:I}{rs:AJ Gr}{ga':A4}{gcap':I}{xs:AJ Aq}(h:Ie w cs W S M rs ga gcap la lcap xs){r:Gr}(hF:Ds W W' (λj=>j=K (U w)\/Ax (AX ga (O rs) gcap)=H j))(F:A7 W' (K (U w)) #[cs,T ga' (O rs+1) gcap',T la (4*M) lcap] 31)(hr:W'.ownsRow (K (U w)) 47 2 (T ga' (O rs+1) gcap') (O rs+1) ((rs.flatMap λr=>(Ez r).toList)++(Ez r).toList))(A:∀j,Ax (AX ga' (O rs+1) gcap')=H j->Ax (AX ga (O rs) gcap)=H j\/K (U W)<=j)(P:∀j,r.blk j->Ax (AX ga' (O rs+1) gcap')≠H j)(V:Em w r W')(hp:r.pl=r.all/\r.cp=r.cl)(Q:O r.all<=S)(N:∀j,r.blk j->K (U W)<=j):Ie w cs W' S M (rs++[r]) ga' gcap' la lcap xs:=by
 have R:=Cc h.ls.wd.wd;have L:∀j,IS la lcap M xs j->¬(j=K (U w)\/Ax (AX ga (O rs) gcap)=H j):=λj a e=>by
  rcases e with rfl|e
  .rcases a with a|⟨i,v,p,f⟩
   .exact h.ls.wd.ne _ a Z
   have:=(h.ls.dis i v _ p f).1;omega
  exact(h.gvo j e).2 a
 have b:=λj a=>hF.block j (h.ls.lt a) (L j a);have s:O (rs++[r])=O rs+1:=Ba;have n:∀{k:I} {q:Gr},(rs++[r])[k]?=H q->rs[k]?=H q\/(k=O rs/\q=r):=λ{k q} b=>B9;refine⟨h.below.trans ⟨hF.os,hF.tape,hF.output,hF.size,λj a=>hF.block j E λe=>?_⟩,⟨⟨by rw[s];exact F,Oo h.ls.wd.row λj e=>b j (AF e),h.ls.wd.ne⟩,λi v z=>(h.ls.all i v z).keep λg e=>b g (AG ⟨i,v,z,e⟩),λi v g p f=>?_,h.ls.grp,h.ls.big⟩,?_,λk q b=>?_,λk l q B b y x j u c=>?_,λk q b j e=>?_,λj e=>?_⟩
 .rcases e with e|e
  .omega
  have:=DK h.row e;omega
 .have:=h.ls.dis i v g p f;have:=hF.size;grind
 .grind
 .rcases n b with d|⟨rfl,rfl⟩
  .have f:=h.gt k q d;refine⟨f.1.keep hF λj a e=>?_,f.2⟩;rcases a with a|a
   .rcases e with e|e
    .omega
    have:=DK h.row e;omega
   have o:=h.out k q d j a;grind
  grind
 .rcases n b with d|⟨rfl,rfl⟩
  .rcases n y with t|⟨rfl,rfl⟩
   .exact h.dis k l q B d t x j u c
   have:=((h.gt k q d).1.lt (AG u)).1;grind
  rcases n y with t|⟨rfl,rfl⟩
  .have:=((h.gt l B t).1.lt (AG c)).1;grind
  exact x Z
 .rw[s];rcases n b with d|⟨rfl,rfl⟩
  .have o:=h.out k q d j e;refine⟨o.1,o.2.1,λc=>?_⟩;rcases A j c with m|m
   .exact o.2.2 m
   have:=((h.gt k q d).1.lt (AG e)).1;omega
  have:=N j e;exact⟨E,λc=>AY (h.ls.lt c),P j e⟩
 rw[s]at e;rcases A j e with m|m
 .exact h.gvo j m
 exact⟨E,λc=>AY (h.ls.lt c)⟩
theorem qsa(hc:Gz w c)(hk : -9223372036854775808<=c.key/\c.key<=9223372036854775807)(ht:Ic (K (U w)) w){M:I}{rs:AJ Gr}{xs:AJ Aq}(h:Ie w cs W S M rs ga gcap la lcap xs)(hn:O rs<=100000000):Ar As 12 #[A8 (K (U w)),.agg c.arr] W λe W'=>e=Ak (Ah AP)/\∃bj r b4,Ie w cs W' S M bj r b4 la lcap xs/\O bj<=O rs+1:=by
 have g:=G h;have HT:=G ht;have bs:=G hk;have R:=G hc;have HS:=G c.size;have B:D (A0 W (Az W (Aj c.arr 40))):=Cl;have an:D ((Az W (Aj c.arr 40)).heap[K (U W)]?=H (Aj c.arr 40)):=Cj _;have b2:D (K (U (Az W (Aj c.arr 40)))=K (U W)+1):=CI _ _;have n:=G (h.below.trans (B.out.mono h.below.size));go_enter func12,ntmps12
 go_wp2_with(first
  |(refine CT Z 40 _ Z _ Z _ _ _ _ an.out underlying40 Z (Ec HS.out) ?_)
  |fail)
 generalize Az W _=W1 at *;refine(mt (R.out.below n.out)).mono ?_;rintro e o ⟨rfl,be⟩;have k:=G be;have bm:=G (mr (R.out.below n.out) be);have ag:=G ((c.lent W1).size);have bv:=G ((c.lent W1).one);have F:D (A0 o (Az o (Aj (c.lent W1).arr 40))):=Cl;have ae:D ((Az o (Aj (c.lent W1).arr 40)).heap[K (U o)]?=H (Aj (c.lent W1).arr 40)):=Cj _
 go_wp2_with(first
  |(refine Zs Z Z Z (K (U o)) Z ?_)
  |(refine Db Z 40 _ _ Z (K (U o)) (c.lent W1).arr Z Z 40 FI (Cj o) (Ec ag.out) (Qp ag.out) bv.out ?_;rw[IT])
  |(refine CT Z 40 _ Z _ Z _ _ _ _ ae.out underlying40 Z (Ec ag.out) ?_)
  |fail)
 generalize Az o _=w3 at *;have a5:=G (n.out.trans (k.out.below.mono n.out.size));have a6:=G (a5.out.trans (F.out.mono a5.out.size));have bc:=G (NZ k.out.below.size (Cc ae.out));have aj:=G (k.out.below.trans (F.out.mono k.out.below.size));have a9:=G ((aj.out.block _ (Cc an.out)).trans an.out);have ax:=G ((F.out.block _ (Cc k.out.e)).trans k.out.e);have a1:=G ((F.out.block _ (Cc k.out.b)).trans k.out.b);have bt:=G (Cc k.out.b);have bl:=G (λap hV=>qnn c ap (R.out.below hV) (HT.out.below hV).gl);have bn:=G (λap hV hE hI=>mu (w:=ap) (R.out.below n.out) hV hE hI);refine(q7p (c.lent W1) w3 (bm.out.below F.out) (HT.out.below a6.out)).mono ?_;rintro e f ⟨v,hO⟩;have ab:=G (aj.out.trans (v.mono aj.out.size));have ao:=G ((v.block _ (Cc a9.out)).trans a9.out);have bb:=G ((v.block _ (Cc ae.out)).trans ae.out);have ay:=G ((v.block _ (Cc ax.out)).trans ax.out);have a2:=G ((v.block _ (Cc a1.out)).trans a1.out);have bz:=G v.size;have cK:=bl.out f (n.out.trans (ab.out.mono n.out.size));have HO:D (∃L P,e=Ak (Af #[.pointer P,C Y (Df c)])/\((P=Ao/\¬Df c=0)\/(P=Aa L/\Df c=0/\JK c (K (U w)) (K (U w3)) L (K (U f)) Ao [] f))):=by
  rcases hO with⟨h0,rfl⟩|⟨h0,L,rfl,hg⟩
  .exact⟨0,Ao,Z,AF ⟨Z,h0⟩⟩
  refine⟨L,_,?_,AG ⟨Z,h0,q1u hg⟩⟩;rw[show Df c=0 from h0]
 obtain⟨L,P,rfl,hO⟩:=AE HO;have ch:=G hO;have bf:(P.isSome:AK)=(Df c==0):=B9;generalize hce:Df c=E at *;have bk:=G hce;generalize Ew c=N at *;have cj:(E != E)=AQ:=Ba;have b8:K (U W)<K (U W1):=AY (AE b2);obtain rfl|⟨au,rfl⟩:P=Ao\/∃au,P=H au:=by cases P<;>simp
 case' inl=>have b6:(E==0)=AQ:=by simpa using bf.symm
 case' inr=>have b6:(E==0)=AP:=by simpa using bf.symm
 all_goals
  go_wp2_with(first
   |(refine CT Z 40 _ Z _ Z _ _ _ _ ao.out underlying40 Z (Ec HS.out) ?_)
   |(go_at_call 27;refine cK.mono ?_;rintro e w5 ⟨rfl,y⟩;have av:=G (ab.out.trans (y.mono ab.out.size));have ba:=G ((y.block _ (Cc ao.out)).trans ao.out);have b1:=G ((y.block _ (Cc bb.out)).trans bb.out);have cW:=bn.out w5 av.out ((y.block _ (Cc ay.out)).trans ay.out) ((y.block _ (Cc a2.out)).trans a2.out);have aw:=G y)
   |(refine CT Z 40 _ Z _ Z _ _ _ _ ba.out underlying40 Z (Ec HS.out) ?_)
   |(refine CT Z 40 _ Z _ Z _ _ _ _ b1.out underlying40 Z (Ec ag.out) ?_)
   |(go_at_call 28;refine cW.mono ?_;rintro e d ⟨rfl,aq,b9⟩;have ak:=G (av.out.trans aq);have b0:=G ((aq.block _ b8).trans ba.out);have bo:=G b9;have a4:=G aq.size))
  have az:=G (g.out.next (S':=S) (B.out.trans (ak.out.mono B.out.size)) (Co _))
 rotate_left
 .go_ret;exact⟨Z,rs,ga,gcap,AE az,B5⟩
 obtain⟨hE,ar⟩:E=0/\au=⟨L,0,Ao⟩/\JK c (K (U w)) (K (U w3)) L (K (U f)) Ao [] f:=by grind [D]
 obtain⟨rfl,ar⟩:=ar;subst hE;have br:D (JK c (K (U w)) (K (U w3)) L (K (U f)) Ao [] d):=by have m:=AE aw;have h2:=AE a4;have h3:=AE ab;have h4:=AE ak;have h5:=AE bt;have h6:=AE bc;have h7:=n.out.size;have h8:=AE bz;refine ar.keep ⟨h4.os.trans h3.os.symm,h4.tape.trans h3.tape.symm,h4.output.trans h3.output.symm⟩ (Cy m.size h2) λj hj=>?_;have cl:j<K (U w)\/K (U w3)<=j/\j<K (U f):=B9;exact(bo.out j (AY m.size) B5 B5).trans (m.block j B5)
 have q:D (Ie w cs {d with drawn:=d.drawn+1} S M rs ga gcap la lcap xs):=az.out.next (Cq (K (U d)) d).drew (Co _)
 have a0:D (JK c (K (U w)) (K (U w3)) L (K (U f)) Ao [] {d with drawn:=d.drawn+1}):=br.out.keep ⟨Z,Z,Z⟩ (Co _) λ_ _=>rfl;have bu:D (K (U w)<=K (U w3)/\K (U W)<=K (U w3)/\K (U f)<=K (U ({d with drawn:=d.drawn+1}:X))):=⟨a6.out.size,AY (AE bc),Cy aw.out.size a4.out⟩
 have a8:D (A0 W {d with drawn:=d.drawn+1}):=(B.out.trans (ak.out.mono B.out.size)).drew;refine Dl (S:=λbd=>bd.heap[K (U W)]?=H (Aj c.arr 40)) b0.out B6 ?_;intro i;have a3:D (∀j,Ax (AX ga (O rs) gcap)=H j->j<K (U W)):=λj e=>Ek g.out.row e;generalize({d with drawn:=d.drawn+1}:X)=u at *;obtain⟨pi,ce,cb,cc,cd⟩:=DD Tryz.infoPair;have Q:D (A0 u (u.alloc (Aj (DF c.arr [] AQ) 72))):=Cl;have af:D ((u.alloc (Aj (DF c.arr [] AQ) 72)).heap[K (U u)]?=H (Aj (DF c.arr [] AQ) 72)):=Cj _;have t:=(Q.out.block _ (Cc i)).trans i;have p:=G ((Q.out.block _ (Cc q.out.ls.wd.wd)).trans q.out.ls.wd.wd);have q1:A6 u (K (U w)) 1 (T ga (O rs) gcap):=Cb q.out.ls.wd.wd 1;have q2:(u.alloc (Aj (DF c.arr [] AQ) 72)).cell? ⟨K (U w),1,Ao⟩=H (T ga (O rs) gcap):=Cb p.out 1;refine Ca 0 42 (A8 (K (U w))) i ?_;refine Ca 1 43 (A8 (K (U w))) i ?_;refine Ca 2 44 (A8 (K (U w))) i ?_;refine Ca 3 45 (A9 (K (U w)) 1) i ?_;refine Ca 5 47 (A8 L) i ?_;refine Cf 6 48 (.agg c.arr) Z (λbd hZ=>LG (.tmp 3) Z Z hZ underlying40 Z (Ec HS.out)) i ?_;refine Ca 7 49 (.agg (DF c.arr [] AQ)) i ?_;have ac:D (Below (K (U (u.alloc (Aj (DF c.arr [] AQ) 72)))) (u.alloc (Aj (DF c.arr [] AQ) 72)) ((u.alloc (Aj (DF c.arr [] AQ) 72)).alloc (Aj #[A8 L,A8 (K (U u))] 47))):=Cl;have aa:=(ac.out.block _ (Cc t)).trans t;have q3:((u.alloc (Aj (DF c.arr [] AQ) 72)).alloc (Aj #[A8 L,A8 (K (U u))] 47)).cell? ⟨K (U w),1,Ao⟩=H (T ga (O rs) gcap):=Cb ((ac.out.block _ (Cc p.out)).trans p.out) 1;refine Y6 (β:=Unit) #[AP,AP,AP,AP,AP,AP,AP,AP,AP,AP,AP,AQ,AQ,AQ,AQ] 4 (λ_=>[(46,T ga (O rs) gcap),(50,A8 (K (U u))),(51,Ag #[A8 L,A8 (K (U u))]),(52,T (Aa (K (U u)+1)) 1 1)]) (λ_=>True) (λ_=>(u.alloc (Aj (DF c.arr [] AQ) 72)).alloc (Aj #[A8 L,A8 (K (U u))] 47)) (λcf=>?_) ?_
 .have am:=G cf;refine GP 4 8 (λl a=>?_) (λl a=>?_)
  .go_simp;refine a.out _ _ i (λ_=>?_);refine CC 8 (λl a=>?_);go_simp;refine a.out _ _ t (λ_=>?_);refine Ca 9 51 (Ag #[A8 L,A8 (K (U u))]) t ?_;refine CC 10 (λl a=>?_);go_simp;refine a.out _ _ aa (λ_=>?_);exact cast B6 (am.out () trivial)
  go_simp;refine a.out _ _ t (λ_=>?_);refine Ca 9 51 (Ag #[A8 L,A8 (K (U u))]) t ?_;refine GP 4 10 (λl a=>?_) (λl a=>?_)
  .go_simp;refine a.out _ _ t (λ_=>?_);refine CC 10 (λl a=>?_);go_simp;refine a.out _ _ aa (λ_=>?_);exact cast B6 (am.out () trivial)
  go_simp;refine a.out _ _ aa (λ_=>?_);refine CC 4 (λl a=>?_);go_simp;refine a.out _ _ aa (λ_=>?_);exact cast B6 (am.out () trivial)
 rintro _ _;have b3:D (K (U (u.alloc (Aj (DF c.arr [] AQ) 72)))=K (U u)+1):=CI _ _;generalize u.alloc _=w7 at *;have bx:=G (Oo q.out.row λj e=>Q.out.block j (Ek q.out.row e));refine CC 11 (λl a=>?_);refine Kp B6 ?_;refine QH (s:=.tmp 46) (x:=.tmp 52) (ad:=⟨K (U u)+1,0,Ao⟩) Z underlying28 ce cb cc cd Z B8 B6 (bx.out.alloc _) 1 1 B6 Z (SS b3.out) (λu hu=>BD) B8 Bc B5 (by have:=Q.out.size;have:=q.out.below.size;simp;omega) ?_;intro v' A bi ai cg;obtain⟨r,V,rfl⟩:=Uh bi;have b5:=Cc p.out;have ca:H (K (U w))≠Ax (AX ga (O rs) gcap):=λe=>(q.out.gvo _ e.symm).1 Z;have al:=G ((ai.block _ B7 ca).trans ((ac.out.block _ b5).trans p.out));have ah:=(ai.block _ B9 (λe=>by grind [D])).trans aa;have k1:A6 A (K (U w)) 1 (T ga (O rs) gcap):=Cb al.out 1;have f1:=Dq A (K (U w)) 1 _ _ al.out;have bp:=G ((Ls Q.out).next (QB ai λci e _=>e));have bq:=G ((ai.block _ (B0 (Cc af.out)) (λe=>by grind [D])).trans ((ac.out.block _ (Cc af.out)).trans af.out));have bw:=G bi;have a7:D (∀j,Ax (AX r (O rs+1) V)=H j->Ax (AX ga (O rs) gcap)=H j\/K (U u)<j):=λj e=>by
  have:=Cc af.out;rcases cg with m|m
  .grind
  rw[m]at e;injection e with e;simp at e;exact AG B5
 refine a.out _ _ ah (λ_=>?_);refine Ca 12 54 (A8 (K (U w))) ah ?_;refine Ca 13 55 (A9 (K (U w)) 1) ah ?_;refine CC 14 (λl a=>?_);go_simp;have b7:(AB A ⟨K (U w),1,Ao⟩ (T r (O rs+1) V)).heap[K (U W)]?=_:=(CY _ _ _ _ (by grind [D])).trans ah;refine a.out _ _ b7 (λ_=>?_);refine CG ?_;go_simp;go_wp2;go_ret;have bh:=AE bu;have ck:=Cc g.out.ls.wd.wd;have z:Ds u (AB A ⟨K (U w),1,Ao⟩ (T r (O rs+1) V)) (λj=>j=K (U w)\/Ax (AX ga (O rs) gcap)=H j):=(M9 bp.out λj e=>AG e).next (Ss (AF rfl))
 have cm:=a8.out.size;have ho:∀j,j≠K (U w)->(AB A ⟨K (U w),1,Ao⟩ (T r (O rs+1) V)).heap[j]?=A.heap[j]?:=λj hj=>CY _ _ _ _ keO;have bg:K (U w3)<=L/\L<K (U f):=by obtain⟨_,_,_,_,_,_,_,_,_,_,_,_,_,⟨_,g2,g3,g4,_⟩,_⟩:=AE a0;omega
 refine⟨Z,rs++[⟨c,K (U w3),L,K (U f),K (U u),Ao,[],AQ,[],AQ⟩],⟨r,V,g.out.more ((Ls a8.out).andThen z λj _ e=>e) ?_ (Oo bw.out λj e=>ho j ?_) (λj e=>(a7.out j e).imp_right λh=>B5) (λj e e2=>?_) ⟨AE bk,AE R,AE bs,⟨bh.1,bg.1,bg.2,bh.2.2⟩,nofun,λ_=>a0.out.keep ⟨z.os,z.tape,z.output⟩ z.size λj hj=>z.block j ?_ λe=>?_,nofun,(ho _ (by dsimp only;omega)).trans bq.out⟩ ⟨rfl,rfl⟩ (En _) (λj e=>?_)⟩,Ba⟩
 .show _=_;rw[DQ _ _ _ _ _ _ al.out];rfl
 .grind [D]
 .rcases a7.out j e2 with m|m
  .have:=a3.out j m;rcases e with e|e|e<;>grind
  rcases e with e|e|e<;>grind
 .grind
 .rcases e with e|e
  .grind
  have h2:=a3.out j e;rcases hj with h|h|h
  .have:=DK g.out.row e;omega
  .omega
  cases h
 rcases e with e|e|e<;>grind
def RP(w:Ap)(cs:Aq)(S M n:AH)(e:Ending)(W':Ap):Prop:=e=Ak (Ah AP)/\∃M' rs ga gcap la lcap xs,Ie w cs W' S M' rs ga gcap la lcap xs/\M'<=M+1/\At rs<=n+1
theorem q5z(s:ByteArray):s=⟨Aw s.data.toList⟩:=Ba
theorem kH:∀{rs:AJ Gr} {k:I} {r:Gr},rs[k]?=H r->(rs.flatMap λr=>(Ez r).toList)[k*2]?=H (A8 r.L)/\(rs.flatMap λr=>(Ez r).toList)[k*2+1]?=H (A8 r.G)
 |[],_,_,h=>Bo
 |q::rs,0,r,h=>by obtain rfl:q=r:=Bw;exact⟨Z,Z⟩
 |q::rs,k+1,r,h=>by rw[show(k+1)*2=k*2+2 by omega];exact kH (rs:=rs) Bw
theorem q64{rs:AJ Gr}(h:W.ownsRow base 47 2 (T ga (O rs) gcap) (O rs) (rs.flatMap λr=>(Ez r).toList)){k:I}{r:Gr}(d:rs[k]?=H r):∃a,ga=Aa a/\a<K (U W)/\A6 W a (k*2) (A8 r.L)/\A6 W a (k*2+1) (A8 r.G):=by
 have s:=Dh d;rcases h.2 with⟨b,c⟩|⟨g,f,i,e,b,c,l,m,n,o⟩
 .omega
 injection e with e1 e2 e3;have p:∀j,j<O rs*2->AC W ⟨g,j,Ao⟩=(rs.flatMap λr=>(Ez r).toList)[j]?:=λj q=>by grind [Cb]
 grind [kH]
theorem qyC{o:In}(t:o.kind=6)(l : -9223372036854775808<=o.a/\o.a<=9223372036854775807){g:I->CD}(s:cn<=maxLen)(i:O3 w ca cn g)(u:∀k,k<cn -> -9223372036854775808<=(g k).key/\(g k).key<=9223372036854775807)(n:Ic (K (U w)) w){M:I}{rs:AJ Gr}{xs:AJ Aq}(h:Ie w (T ca cn ccap) W S M rs ga gcap la lcap xs)(hn:O rs<=100000000):Ar As 6 #[Ad (H ⟨K (U w),0,Ao⟩),.agg o.arr] W (RP w (T ca cn ccap) S M (O rs)):=by
 have ok:o.arr[0]?=H (C Y 6):=by rw[<-t];rfl
 have oa:o.arr[1]?=H (C Y o.a):=rfl;have af:AC W ⟨K (U w),0,Ao⟩=H (T ca cn ccap):=Cb h.ls.wd.wd 0;have ae:=Cc h.ls.wd.wd;have A:=G h;have Q:=G n;rcases Uy cn with rfl|q
 .clear h n;go_enter func6,ntmps6;go_wp2;go_ret;exact⟨rfl,M,rs,ga,gcap,la,lcap,xs,A.next Cl (Co _),E,E⟩
 have ai:((cn:J)==0)=AQ:=MN.2 E;obtain⟨b,off,rfl,hb,r⟩:=i.at_ 0 E;have m:=Zw o.a q;have V:=λw=>Zx w q s l.1 l.2;have z:=G (i.each _ m);have F:=G (u _ m);generalize M0 o.a cn=k at *;have f:=λj hj=>(h.below.cell (p:=⟨b,off+k*11+j,Ao⟩) hb).trans (r k j m hj);generalize hgk:g k=c at *;have k0:AC W ⟨b,off+k*11,Ao⟩=H (C Y c.labels):=f 0 E;have v:AC W ⟨b,off+k*11+1,Ao⟩=H (T c.ea (O c.L) c.ecap):=f 1 E;have x:AC W ⟨b,off+k*11+2,Ao⟩=H (C Y c.dflt):=f 2 E;have k3:AC W ⟨b,off+k*11+3,Ao⟩=H (.string c.pol):=f 3 E;have k4:AC W ⟨b,off+k*11+4,Ao⟩=H (C Y c.clr):=f 4 E;have k5:AC W ⟨b,off+k*11+5,Ao⟩=H (C Y c.key):=f 5 E;have k6:AC W ⟨b,off+k*11+6,Ao⟩=H (C Y c.inn):=f 6 E;have k7:AC W ⟨b,off+k*11+7,Ao⟩=H (C Y c.out):=f 7 E;have k8:AC W ⟨b,off+k*11+8,Ao⟩=H (C Y c.depth):=f 8 E;have k9:AC W ⟨b,off+k*11+9,Ao⟩=H (C Y c.bytes):=f 9 E;have aj:AC W ⟨b,off+k*11+10,Ao⟩=H (T c.ba (O c.B) c.bcap):=f 10 E;have ag:(0:J)<=(k:J):=E;have ah:(k:J)<(cn:J):=E;have P:=G c.size;have N:D ((Az (Az W (Aj o.arr 34)) (Aj c.arr 40)).drew.heap[K (U W)+1]?=H (Aj c.arr 40)):=by have e:=Cj (Az W (Aj o.arr 34)) (o:=Aj c.arr 40);rw[CI]at e;exact e
 have y:D (A0 W (Az (Az W (Aj o.arr 34)) (Aj c.arr 40)).drew):=((Cl).alloc Ba _).drew;have R:=qsa z F Q (h.next (S':=S) y (Co _)) hn;clear r i h n t l s f u;go_enter func6,ntmps6;go_wp2
 go_region_held3(λd=>AC d ⟨K (U w),0,Ao⟩=H (T (H ⟨b,off,Ao⟩) cn ccap)/\AC d ⟨K (U W),1,Ao⟩=H (C Y o.a)/\AC d ⟨b,off+k*11,Ao⟩=H (C Y c.labels)/\AC d ⟨b,off+k*11+1,Ao⟩=H (T c.ea (O c.L) c.ecap)/\AC d ⟨b,off+k*11+2,Ao⟩=H (C Y c.dflt)/\AC d ⟨b,off+k*11+3,Ao⟩=H (.string c.pol)/\AC d ⟨b,off+k*11+4,Ao⟩=H (C Y c.clr)/\AC d ⟨b,off+k*11+5,Ao⟩=H (C Y c.key)/\AC d ⟨b,off+k*11+6,Ao⟩=H (C Y c.inn)/\AC d ⟨b,off+k*11+7,Ao⟩=H (C Y c.out)/\AC d ⟨b,off+k*11+8,Ao⟩=H (C Y c.depth)/\AC d ⟨b,off+k*11+9,Ao⟩=H (C Y c.bytes)/\AC d ⟨b,off+k*11+10,Ao⟩=H (T c.ba (O c.B) c.bcap)) (go_keep) (first|(go_at_call 11;refine(V _).mono ?_;rintro e d ⟨rfl,rfl⟩))
 all_goals go_wp2_with(first|(refine CT rfl 40 _ rfl _ rfl _ _ _ _ N underlying40 rfl (Ec P) ?_)|(go_at_call 12;refine R.mono ?_;rintro e w2 ⟨rfl,ac⟩))
 all_goals go_ret
 all_goals
  obtain⟨ad,aa,ab,v,x⟩:=ac;exact⟨Z,M,ad,aa,ab,la,lcap,xs,v,E,x⟩
theorem q58(r:Gr):(prog.info? 47).map (·.size)=H (Ez r).size:=B6
theorem q5D{M:I}{rs:AJ Gr}{xs:AJ Aq}(h:Ie w cs W S M rs ga gcap la lcap xs){r:Gr}(hi:rs[i]?=H r)(s:ByteArray)(o:S+s.size<=200000000):Ar As 14 #[.agg (Ez r),.string s] W (RP w cs (S+s.size) M (O rs)):=by
 obtain⟨d,f,n⟩:=h.gt i r hi;have q:O s.data.toList=s.size:=FE;rw[show(Value.string s)=Ae ⟨Aw s.data.toList⟩ by rw[<-q5z]];refine(q1m d f (s:=s.data.toList) B9).mono ?_;rintro e m ⟨rfl,hF,l,k,a⟩;have g:=h.out i r hi;exact⟨Z,M,rs.set i l,ga,gcap,la,lcap,xs,h.upd hi (M9 hF λj e=>AF e) k {a with len:=Cy a.len B9} E (h.ls.kept hF λj p e=>by
  grind) (λj e=>AF e) (λj e b=>by
  rcases a.blk j e with c|c
  .exact(g j c).2.1 b
  have:=h.ls.lt b;omega),E,Ba⟩
theorem quw{M:I}{rs:AJ Gr}{xs:AJ Aq}(h:Ie w cs W S M rs ga gcap la lcap xs){r:Gr}(hi:rs[i]?=H r)(p:S<=S')(z:S'<=200000000)(o:M<=100000000):Ar As 15 #[A8 (K (U w)),.agg (Ez r)] W (RP w cs S' M (O rs)):=by
 obtain⟨f,n,x⟩:=h.gt i r hi;have b:=h.out i r hi;refine(qsO f n h.below E h.ls o ⟨Co _,Co _,h.below.size⟩ λj e=>⟨(b j e).1,(b j e).2.1⟩).mono ?_;rintro e l ⟨rfl,hF,⟨s,t,v,q,k⟩,u,g,c⟩;exact⟨Z,M+1,rs.set i u,ga,gcap,s,t,v,h.upd hi hF g {c (K (U W))with len:=Cy (c 0).len E} p q k (λj e m=>by
  have y:=(g.lt (AG e)).1;rcases(c (K (U l))).blk j e with a|a
  .rcases k j m with d|d
   .exact(b j a).2.1 d
   have:=(f.lt (AG a)).1;omega
  omega),E,Ba⟩
theorem qv1{o:In}(c:o.kind=7\/o.kind=8)(p : -9223372036854775808<=o.a/\o.a<=9223372036854775807){M:I}{rs:AJ Gr}{xs:AJ Aq}(h:Ie w cs W S M rs ga gcap la lcap xs)(F:O rs<=maxLen)(m:S+o.s.size<=200000000)(z:M<=100000000):Ar As 6 #[Ad (H ⟨K (U w),0,Ao⟩),.agg o.arr] W (RP w cs (S+o.s.size) M (O rs)):=by
 have oa:o.arr[1]?=H (C Y o.a):=rfl;have os:o.arr[5]?=H (.string o.s):=rfl;have A:AC W ⟨K (U w),1,Ao⟩=H (T ga (O rs) gcap):=Cb h.ls.wd.wd 1;have P:=Cc h.ls.wd.wd;have i:=G h;rcases Uy (O rs)with y|j
 .rw[y]at A;rcases c with c|c
  case' inl=>have ok:o.arr[0]?=H (C Y 7):=kfj
  case' inr=>have ok:o.arr[0]?=H (C Y 8):=kfj
  all_goals
   clear h c;go_enter func6,ntmps6;go_wp2;go_ret;exact⟨rfl,M,rs,ga,gcap,la,lcap,xs,i.next Cl E,E,E⟩
 have aa:((O rs:J)==0)=AQ:=MN.2 E;have B:=Zw o.a j;have x:=λw=>Zx w j F p.1 p.2;generalize M0 o.a (O rs)=k at *;obtain⟨r,f⟩:∃r,rs[k]?=H r:=⟨_,D3 B⟩
 obtain⟨b,rfl,Q,k0,k1⟩:=q64 h.row f;have R:(0:J)<=(k:J):=E;have V:(k:J)<(O rs:J):=E;have g:D (A0 W (Az (Az W (Aj o.arr 34)) (Aj (Ez r) 47)).drew):=((Cl).alloc Ba _).drew;have t:D ((Az (Az W (Aj o.arr 34)) (Aj (Ez r) 47)).drew.heap[K (U W)+1]?=H (Aj (Ez r) 47)):=by have e:=Cj (Az W (Aj o.arr 34)) (o:=Aj (Ez r) 47);rw[CI]at e;exact e
 have v:=q5D (h.next (S':=S) g (Co _)) f o.s m;have u:=quw (h.next (S':=S) g (Co _)) f (S':=S+o.s.size) E m z;have q:=G (q58 r);generalize O rs=n at *;rcases c with c|c
 case' inl=>have ok:o.arr[0]?=H (C Y 7):=kfj
 case' inr=>have ok:o.arr[0]?=H (C Y 8):=kfj
 all_goals
  clear h c f i;unfold Ez at *;go_enter func6,ntmps6;go_wp2
  go_region_held3(λd=>AC d ⟨K (U w),1,Ao⟩=H (T (H ⟨b,0,Ao⟩) n gcap)/\AC d ⟨K (U W),1,Ao⟩=H (C Y o.a)/\AC d ⟨b,k*2,Ao⟩=H (Ad (H ⟨r.L,0,Ao⟩))/\AC d ⟨b,k*2+1,Ao⟩=H (Ad (H ⟨r.G,0,Ao⟩))) (go_keep) (first|(go_at_call 11;refine(x _).mono ?_;rintro e d ⟨rfl,rfl⟩))
 all_goals go_wp2_with(first|(refine CT rfl 47 _ rfl _ rfl _ _ _ _ t underlying47 rfl q ?_)|(go_at_call 14;refine v.mono ?_;rintro e N ⟨rfl,l⟩)|(go_at_call 15;refine u.mono ?_;rintro e N ⟨rfl,l⟩))
 all_goals go_ret
 all_goals exact⟨rfl,l⟩
def JM(h:AH->In)(k:AH):AH:=((List.range k).map λi=>(h i).s.size).sum
theorem kI(h:I->In)(k:I):JM h (k+1)=JM h k+(h k).s.size:=by simp[JM,UN]
def OV(w:Ap)(cs:Aq)(h:AH->In)(k:AH)(W:Ap):Prop:=∃M rs ga gcap la lcap xs,Ie w cs W (JM h k) M rs ga gcap la lcap xs/\M<=k/\At rs<=k
theorem OV.next{k k':I}(f:OV w cs h k W)(e:A0 W W')(p:k<=k')(g:JM h k<=JM h k'):OV w cs h k' W':=by obtain⟨a,l,b,c,i,j,m,d,n,o⟩:=f;exact⟨a,l,b,c,i,j,m,d.next e g,E,E⟩
theorem qwr{w W W':Ap}{X:I->Prop}(h:A0 w W)(a:Ds W W' X)(hx:∀j,X j->K (U w)<=j):A0 w W' :=
 h.trans ⟨a.os,a.tape,a.output,a.size,λj b=>a.block j Bm (λe=>AY (hx j e))⟩
theorem Ic.top(h:Ic b W):Ic (K (U W)) W:=⟨h.rd,h.up (Cq _ _),h.db,h.gl,AY h.big,Co _⟩
theorem qsA{g:I->CD}(ap:cn<=maxLen)(a4:sn<=100000000)(ay:∀k,k<=sn->JM h k<=200000000)(ae:I)(hC:O3 w ca cn g)(au:∀k,k<cn -> -9223372036854775808<=(g k).key/\(g k).key<=9223372036854775807)(hO:Pg w sa sn h)(hP:FH w pa [6,7,8])(hg:Ic (K (U w)) w):Ar As 4 #[T ca cn ccap,T sa sn scap,T pa 3 ae] w λe w'=>e=Ak (Ah AP)/\A0 w w':=by
 have HC:=G hC;have HO:=G hO;have HP:=G hP;have HG:=G hg;have al:=G ay;have ak:=G au;have ag:=G ap;have HT:D (OV w (T ca cn ccap) h 0 (Az w (M #[T ca cn ccap,T Ao 0 0,T Ao 0 0] 31))):=⟨0,[],Ao,0,Ao,0,[],⟨Cl,q5I (Cj _),Fa _ _ _ _,λi af h=>Bx,λi k af r' h=>Bx,λi af h=>Bx,λad e=>kec⟩,Co _,Co _⟩
 go_enter func4,ntmps4;go_wp2;generalize Az w (M #[T ca cn ccap,T Ao 0 0,T Ao 0 0] 31)=W0 at *
 go_loopg[8,9,10,11,12] sn (λq x1 x2 x3 x4 x5 wr=>∃k:I,D (k+q=sn)/\x1=C Y k/\D (OV w (T ca cn ccap) h k wr))
 case atStart=>grind [D]
 case round =>
  obtain⟨k,u,rfl,A⟩:=hrel;obtain _|q:=gk
  .have av:¬(k:J)<sn:=AY (AE u);obtain⟨n,y,F,L,R,V,W,t,P,_⟩:=AE A;have x:=t.ls;have r:=G t;have cA:=qU x.rd Z (AY (AE u)) x.big x.hdis x.grp
   go_wp2_with(first|(go_at_call 8;refine cA.mono ?_;rintro e w2 ⟨rfl,ao⟩;have ah:=G ao))
   go_ret;exact⟨Z,qwr r.below ah (λad ⟨i,a0,l,N⟩=>AY ((r.ls.dis i a0 ad l N).1))⟩
  have av:(k:J)<sn:=AY (AE u);have a3:(k:J)<144115188075855872:=E;have z:D (A0 w wr):=by obtain⟨n,y,F,L,R,V,W,t,_⟩:=AE A;exact t.below
  obtain⟨b,off,rfl,a2,m⟩:=(HO.below z).at_ k E;have v:=G (HO.a1 k E);have aa:D (JM h k+(h k).s.size<=200000000/\JM h (k+1)=JM h k+(h k).s.size):=⟨by have:=al.out (k+1) E;grind [kI],kI h k⟩
  have k0:A6 wr b (off+k*7) (C Y (h k).kind):=m k 0 E E;have k1:A6 wr b (off+k*7+1) (C Y (h k).a):=m k 1 E E;have k2:A6 wr b (off+k*7+2) (C Y (h k).b):=m k 2 E E;have k3:A6 wr b (off+k*7+3) (C Y (h k).c):=m k 3 E E;have k4:A6 wr b (off+k*7+4) (C Y (h k).d):=m k 4 E E;have k5:A6 wr b (off+k*7+5) (.string (h k).s):=m k 5 E E;have k6:A6 wr b (off+k*7+6) (.slice (h k).pp (h k).pl (h k).pc):=m k 6 E E;generalize h k=o at *;have j:D (A0 wr (Az wr (M o.arr 34))):=Cl;have ab:=G (A.next j (Co _) (Co _));have p:=mq (k:=o.kind) (cap:=ae) (B:=[6,7,8]) (by simp[maxLen]) (HP.below (z.trans (j.mono z.size)));have HN:D ((Az wr (M o.arr 34)).heap[K (U wr)]?=H (M o.arr 34)):=Cj _;have ai:D ((prog.info? 34).map (·.size)=H o.arr.size):=by show _=_;rw[show o.arr.size=7 from rfl];kernel_rfl
  cases P:O2 [6,7,8] o.kind
  .rw[P]at p
   go_wp2_with(first
    |(go_at_call 5;refine p.mono ?_;rintro e w2 ⟨rfl,rfl⟩))
   go_roundg q
   case measure=>omega
   case rel=>exact⟨k+1,B9,Bb,ab.next (Cq _ _) E (AY (AE aa))⟩
  rw[P]at p;have aj:D (o.kind=6\/o.kind=7\/o.kind=8):=by grind [D,O2]
  go_wp2_with(first
   |(go_at_call 5;refine p.mono ?_;rintro e w2 ⟨rfl,rfl⟩)
   |(refine CT Z 34 _ Z _ Z _ _ _ _ HN underlying34 Z ai ?_)
   |fail)
  have az:Ar As 6 #[A8 (K (U w)),.agg o.arr] (Az wr (M o.arr 34)) λe f=>e=Ak (Ah AP)/\OV w (T ca cn ccap) h (k+1) f:=by
   have ax:=AE aa;obtain⟨n,y,F,L,R,V,W,l,N,h3⟩:=AE ab;have fin:∀{S:I} {e:Ending} {f:X},S<=JM h (k+1)->RP w (T ca cn ccap) S n (O y) e f->e=Ak (Ah AP)/\OV w (T ca cn ccap) h (k+1) f:=λ{S e f} hS ⟨he,M',rs',ga',gcap',la',lcap',xs',q1,q2,q3⟩=>⟨he,M',rs',ga',gcap',la',lcap',xs',q1.next (Cq _ _) hS,E,E⟩
   rcases AE aj with aq|ar
   .exact(qyC aq v ag HC ak HG l E).mono λe f Q=>fin E Q
   exact(qv1 ar v l Bc ax.1 E).mono λe f Q=>fin E Q
  refine az.mono ?_;rintro e w3 ⟨rfl,ac⟩;have am:=G ac;obtain⟨n,y,F,L,R,V,W,l,N,h3⟩:=ac;have cL:=qQ l.ls.rd (AY (AE u)) l.ls.big
  go_wp2_with(first
   |(go_at_call 7;refine cL.mono ?_;rintro e w4 ⟨rfl,aw⟩;have an:=G (am.next aw.below (Co _) (Co _))))
  go_roundg q
  case measure=>omega
  case rel=>exact⟨k+1,B9,Bb,an⟩
theorem qts{g:I->CD}(n:cn<=maxLen)(q:sn<=100000000)(r:∀k,k<=sn->JM h k<=200000000)(f:O3 w ca cn g)(p:∀k,k<cn -> -9223372036854775808<=(g k).key/\(g k).key<=9223372036854775807)(l:Pg w sa sn h)(o:Ic (K (U w)) w):Ar As 3 #[T ca cn ccap,T sa sn scap] w λe s=>e=Ak (Ah AP)/\A0 w s:=by
 have a:A0 w (Az w (M #[C Y 6,C Y 7,C Y 8] 3)):=Cl;have m:FH (Az w (M #[C Y 6,C Y 7,C Y 8] 3)) (Aa (K (U w))) [6,7,8]:=⟨λi t=>⟨K (U w),0,Z,Ba,λj u=>by rw[Gw];refine(Cb (Cj _) j).trans ?_;grind⟩⟩
 have c:=qsA (ccap:=ccap) (scap:=scap) n q r 3 (f.below a) p (l.below a) m (o.below a).top;have b:=G a;go_enter func3,ntmps3
 go_wp2_with(first|(go_at_call 4;refine c.mono ?_;rintro e v ⟨rfl,d⟩))
 go_ret;exact⟨Z,b.trans (d.mono Ba)⟩
end
section
open Go.ChangeShapes Go.WideShapes Go.ChangeAt Go.RowKit Go.Lib Go.Deep
def q6D:AJ AI:=[0,1,56,2,57,49,28,3,61,58,42,50,38,29,17,4,62,47,59,36,45,43,51,22,53,39,33,30,24,18,12,5,63,55,48,27,60,41,37,16,46,35,44,21,52,32,23,11,54,26,40,15,34,20,31,10,25,14,19,9,13,8,7,6]
theorem q7P:(prog.globals[8]?).map (·.type)=An 374:=B6
theorem q2Q:prog.cellsOf 374=64:=B6
theorem q1K:prog.cellsOf 5=1:=B6
theorem q12:(Rows.laid_math_bits_deBruijn64tab:A2)=tabData .u8 q6D:=B6
theorem q0Z(a:laidMetH As Rows.gatesRow.laid W)(c:W.ShapedOpen As):Ic (K (U W)) W:=by have h:laidMet As Rows.gatesRow.laid W:=a;have b:=qy2 a c;refine⟨b.rd,b.tb,?_,ZE a c,b.rd.big,Co _⟩;obtain⟨g,t,cs,l,p,f,j,k,e⟩:=laidMet.reads h (d:=Rows.laid_math_bits_deBruijn64tab) (.tail _ (.head _));obtain rfl:g=8:=Fg (f.symm.trans B6);obtain rfl:=Fg (q7P.symm.trans j);rw[q12]at e;have i:=cells_of_tab underlying374 underlying5 q1K q2Q e;rw[YG f k 15,<-NN,i];rfl
section
variable{H:Type} {enc:TypeId×Aq->H} {w:Ap}
theorem kJ:∀(l:AJ (AM H)) (d:AM H),Rows.uptoBulkAll (l++[d])=Rows.uptoBulkAll l+Rows.uptoBulk d
 |[],d=>by simp[Rows.uptoBulkAll]
 |a::r,d=>by rw[Lf,Rows.uptoBulkAll,Rows.uptoBulkAll,kJ r d];omega
theorem Yo{f:I->I}{D:I->AM H}:∀{n k:I},k<=n->(∀i,i<n->f i<=Rows.uptoBulk (D i))->((List.range k).map f).sum<=Rows.uptoBulkAll ((List.range n).map D)
 |0,k,hk,_=>by obtain rfl:k=0:=E;exact En _
 |n+1,k,hk,h=>by
  have b:=h n E;rw[UN,JP,List.map_singleton,kJ];by_cases e:k=n+1
  .subst e;have:=Yo (n:=n) (k:=n) (Co _) λi a=>h i E;rw[UN,JP,UM];simp;omega
  have:=Yo (n:=n) (k:=k) E λi a=>h i E;omega
theorem q1l{v:Aq}{x:AM H×AJ MemPlace}(h:DataW.trod enc As w 0 (λ_=>AP) AP fuel 23 [v]=An x)(q:Rows.uptoBulk x.1<=1048576):∃(a:A4) (n e:I) (g:I->In),v=T a n e/\Pg w a n g/\n<=1048576/\∀k,k<=n->JM g k<=1048576:=by
 rcases open_slice underlying23 h with⟨l,_⟩|⟨a,len,e,m,n,p,R,l,_,V,W,N,rfl,u⟩
 .cases l;exact⟨Ao,0,0,λ_=>ZB,Z,⟨λk c=>E,λk c=>E⟩,E,λk c=>by rw[show k=0 by omega];simp[JM]⟩
 cases l;have L:m=e:=by rw[N];rfl
 subst L;rw[Zz]at u;simp only[]at q;rw[Rows.uptoBulk]at q;have t:=jk ((List.range len).map p);rw[LW,List.length_range]at t;have Q:∀i,i<len->∃o:In,(-9223372036854775808<=o.a/\o.a<=9223372036854775807)/\o.s.size<=Rows.uptoBulk (p i)/\∀j,j<7->AC w ((a.add (i*7)).add j)=o.arr[j]?:=λi r=>by obtain⟨S,y,z⟩:=u i E;obtain⟨_,t,B⟩:=UA y;obtain⟨o,rfl,A,P⟩:=q5N z;exact⟨o,A,P,λj f=>(B j f).trans Ba⟩
 have ih:Inhabited In:=⟨ZB⟩
 obtain⟨g,d⟩:=choose_lt Q;refine⟨An a,len,m,g,Z,⟨λk c=>?_,λk c=>(d k c).1⟩,E,λk c=>Cy (Yo c λi r=>(d i r).2.1) E⟩;obtain⟨b,off,rfl,F⟩:=Sd (by have:=(d 0 E).2.2 0 E;rw[S2,add_add]at this;exact this);refine⟨b,off,Z,F,λk j c f=>?_⟩;have:=(d k c).2.2 j f;rw[add_add,KP]at this;rw[<-this,Nat.add_assoc]
end
theorem qxJ{H:Type}{t1 t2:AN}{d0 d1:AM H}{P:Program}(h:(DataW.weightsEach P ([t1,t2]++[]) ([d0,d1]++[])).all (·<=reachBytes)=AP):(d0.weights P t1).all (·<=reachBytes)=AP/\(d1.weights P t2).all (·<=reachBytes)=AP:=by simp only[Qj,DataW.weightsEach,RW,F3]at h;exact⟨h.1,h.2⟩
theorem qj8{H:Type}{enc:AN×Aq->H}{args:A3}{ds gs:AJ (AM H)}{before:AJ MemPlace}(n:∀(j:I) t v,f3.params[j]?=An t->args[j]?=An v->Value.okWide As W .any base t v)(y:DataW.Whole enc As f3.params.toList Rows.gatesSpec.vars AQ W args.toList ds gs before)(B:(DataW.weightsEach As (f3.params.toList++[]) (ds++gs)).all (·<=reachBytes)=AP)(m:Rows.uptoSmall H (ds++gs)=AP)(g:laidMetH As Rows.gatesUptoRow.laid W)(q:W.ShapedOpen As):Ar As 3 args W λe r=>∃v,e=Ak v/\Rows.gatesSpec.post enc As f3 AQ AP AQ AQ W args v r:=by have z:=y;obtain⟨am,an,S,hV,rfl,ai,aj⟩:=y;have w:=S;rw[Tryz.params3]at w n B;obtain⟨v0,v1,b,c,f,o,rfl,rfl,rfl,Q,R⟩:=trodAll_two w;obtain⟨rfl,rfl⟩:=trodVars_none hV;obtain⟨F,l0,L,rfl⟩:=okWide_slice underlying22 (n 0 22 v0 rfl rfl);obtain⟨a1,l1,c1,rfl⟩:=okWide_slice underlying23 (n 1 23 v1 rfl rfl);obtain⟨n0,s⟩:=Q;obtain⟨n1,u⟩:=R;have ab:Rows.uptoBulkAll [b,c]<=1048576:=Dk m;have k:=Cy (XV (l:=[b,c]) (d:=c) Ba) ab;obtain⟨ae,al⟩:=qxJ B;obtain⟨ca,cn,ag,ah,N,V,aa,ac⟩:=mG (v:=T F l0 L) (x:=(b,f)) s ae;cases N;obtain⟨sa,sn,ao,h,P,p,ak,ad⟩:=q1l u k;cases P;refine(qts aa E (λaf m=>AY (ad af m)) V ac p (q0Z g q)).mono ?_;rintro e r ⟨rfl,i⟩;have A:∀x∈f++o++[],x.block<K (U W):=λx a=>z.lt x a;refine⟨_,Z,[b,c],[],f++o++[],[],f++o,[],z,trodAll_mk1 (shut_bool underlying4 AP),?_,Z,i.frame _,λh=>Bo⟩;exact trodAll_mk2 (Below.trod Tryz.laidOut B6 (Dk B6) ⟨n0,s⟩ i (λx a=>A x keP)) (Below.trod Tryz.laidOut B6 (Dk B6) ⟨n1,u⟩ i (λx a=>A x keP))
theorem qop{os:Os}{H:Type}(enc:AN×Aq->H):∃a,DataW.whole enc As ((Vm (World.holding As os ⟨#[],#[],[]⟩)).forCall (λ_ _=>0) ⟨#[],#[T Ao 0 0,T Ao 0 0],[]⟩).memory f3.params.toList Rows.gatesSpec.vars AQ #[AX Ao 0 0,AX Ao 0 0].toList 8=An ([.nil,.nil],[],a) :=
 ⟨[],B6⟩
theorem qof{os:Os}(h:os.Started){H:Type}(enc:AN×Aq->H){F:Stop.Interp}:ReturnsInHanded {} Tryz.checked os 3 .any ((Rows.OpenSpec.upto Rows.gatesSpec).preRow enc As f3 Rows.gatesUptoRow.domain AQ Rows.gatesUptoRow.laid) (((Rows.OpenSpec.upto Rows.gatesSpec).at F).post enc As f3 AQ AP AQ AQ):=by
 obtain⟨o,g⟩:=qop enc;refine returnsInHanded_of_row (C:=Tryz.checked) (s:=Rows.OpenSpec.upto Rows.gatesSpec) Tryz.own h B6 func3
  (witness_row_at (enc:=enc) (C:=Tryz.checked) AQ (Vm (World.holding As os ⟨#[],#[],[]⟩)) #[T Ao 0 0,T Ao 0 0] rfl B6 B6 B6
   (OpenSpec.preRow_of_cond 8 g B6 (λk a=>by obtain rfl:=Fg a;kernel_rfl) B6 (mL))) ?_
 intro W j i m n l e d _ a f b c _;exact qj8 e d f (a _ Z) b c
theorem qyD:(Rows.gatesUptoRow.inPlace==Tryz.pinned.checked.prog.inPlace 3)=AP:=B6
theorem qx8:(Rows.gatesUptoRow.unfollowed==Tryz.pinned.checked.prog.unfollowed 3)=AP:=B6
theorem qxn:(Rows.gatesUptoRow.recurses==Tryz.pinned.checked.prog.recurses 3)=AP:=B6
theorem qxC:(Rows.gatesUptoRow.named==Tryz.pinned.checked.prog.varsNamed 3)=AP:=B6
theorem qpM:joinedFacts Tryz.pinned.checked.prog 3 f3 (Rows.OpenSpec.upto Rows.gatesSpec).bare Rows.gatesUptoRow=AP:=by unfold joinedFacts;rw[qyD,qx8,qxn,qxC];kernel_rfl
theorem qsw:Rows.GatesUptoSaid :=
 OpenClaim.holds_of_cond 3 f3 rfl rfl rfl rfl rfl rfl rfl ⟨rfl,rfl,rfl,rfl,rfl⟩ rfl rfl rfl rfl rfl B6 func3 qpM
  (Dk B6) (by unfold Func.isWrapper;first|(rw[Cn (by decide +kernel)];kernel_rfl)|(rw[Ci (by decide +kernel)];exact⟨Z,Z⟩))
  (λb a H enc _ F=>by rw[OpenClaim.pre_eq_preRow];exact qof a enc)
theorem qoZ(f:FuncId)(a:Func)(c:Tryz.pinned.checked.prog.funcNamed Rows.gatesUptoRow.func=An f)(d:Tryz.pinned.checked.prog.funcs[f]?=An a):AP=Tryz.pinned.checked.prog.looks []/\∀(j:I) t,a.params[j]?=An t->Tryz.pinned.checked.prog.wantsStandIn t=AQ:=by
 obtain rfl:f=3:=Fg ((show prog.funcNamed Rows.gatesUptoRow.func=An 3 by kernel_rfl).symm.trans c) |>.symm;obtain rfl:a=f3:=(Fg (func3.symm.trans d)).symm;refine⟨B6,λj t b=>?_⟩;rw[Tryz.params3]at b;have e:t∈#[(22:AN),23]:=Array.mem_of_getElem? b;rcases(by simpa using e:t=22\/t=23)with rfl|rfl
 .exact(show prog.wantsStandIn 22=AQ by kernel_rfl)
 exact(show prog.wantsStandIn 23=AQ by kernel_rfl)
theorem gates_card:Rows.GatesUptoCardSaid :=
 Claim7.holds_tied_plain_at .later [] _ _ _ _ qsw (λ_ h=>Bo) B6 (λ_ h=>Bo) gatesUpto_row_tie rfl ⟨rfl,rfl⟩ B6 rfl qoZ B6
#print axioms gates_card
end
end Go.Proofs.YtihfjkjbfaneeaaGreatDoor
