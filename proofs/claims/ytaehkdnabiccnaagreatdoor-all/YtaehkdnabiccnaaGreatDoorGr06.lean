import Derived.Test.YtaehkdnabiccnaaGreatDoorGr05
import Derived.Test.YtaehkdnabiccnaaGreatDoorGr04
set_option maxRecDepth 100000
set_option maxHeartbeats 8000000
set_option linter.all false
namespace Go.Proofs.YtaehkdnabiccnaaGreatDoor
open Go.Proofs.Tryz
open _root_ renaming Nat->I,Int->J,Nat->AH,Int->AI,List->AJ,Bool->AK,Except->AS,ByteArray->AT,UInt8->AU
open Go.Value renaming int->C,slice->G,slice->AX,int->Ab,slice->Ac,string->Ae,tuple->Af,agg->Ag,bool->Ah,ownBlock->Ax
open Go.World renaming heap->U,setCell->AB,cell?->AC,setRow->AD,heap->Av,alloc->Az
open _root_.Array renaming size->O,size->Au,setIfInBounds->Ay
open _root_.List renaming length->K,replicate->AV,length->At,toArray->Aw
open Go.IntKind renaming i64->Y,i64->Al
open Go.RowKit renaming Hid->D
open Go renaming World->X,DataW->AM,TypeId->AN,World->Ap,Value->Aq,Calls->Ar
open Option renaming some->H,some->An,none->Ao
open Go.Obj renaming cells->M,cells->Aj
open Go.Ending renaming returned->Ak
open Go.Proofs.Tryz renaming prog->As
open Go.RowKit.Hid renaming out->AE
open Or renaming inl->AF,inr->AG
open _root_.Bool renaming true->AP,false->AQ
open _root_.Decidable renaming decide->AR
variable{P:Program}{m:AK}{bs:A1}{a d depth dp fm kd l lim:J}{rd:I->AS (J×J) (AM Unit×I)}{B N b cap g i k lo n p pc q x:I}{R r:AS (J×J) (AM Unit×I)}{ds ds':AJ (AM Unit)}{kl kl' ss:AJ A1}{f:I->AK}{V V' W W' w w' wr:X}{kv u v:Aq}{A arr y:A3}{s:AT}{e:Ending}{c:CF}{F:J×J}{o:FR}{L ps:AJ (A1×AK)}{pa pp ra:A4}{ops:Array Oper}{Q:Exit->Act->X->Prop}{rs:AJ (AJ A1×J×J)}{t:AN}
section
open Go.RowKit Go.Lib Go.Shelf Go.Deep
def FJ(m:AK):AI:=bif m then 7 else 6
def U3(m:AK)(kl:AJ A1)(ds:AJ<|AM Unit):A2:=bif m then .map (FH kl ds)else .agg ds
def O1(m:AK):AH:=bif m then 125 else 93
def RW(m:AK)(bs:A1)(lim:AI)(rd:AH->AS (AI×AI) (AM Unit×AH))(p:AH):AS (AI×AI)<|AM Unit×AH:=bif m then fV (Gp bs lim (FF bs lim rd) 125 p ([],[]))else XI (Gp bs lim (G7 rd) 93 p [])
def O2(m:AK)(bs:A1)(lim:AI)(rd:AH->AS (AI×AI) (AM Unit×AH))(g p:AH)(kl:AJ A1)(ds:AJ<|AM Unit)(R:AS (AI×AI)<|AM Unit×AH):Prop :=
 bif m then∃R',Pa bs lim (FF bs lim rd) 125 g p (kl.reverse,FH kl ds) R'/\fV R'=R else∃R',Pa bs lim (G7 rd) 93 g p ds R'/\XI R'=R
def uY{p1:I}(hl:Lm bs l lim)(hi:Cx bs lim p)(h:p1=EG bs l (K bs+1-p) p)(i:RW m bs lim rd p=R):Cx bs lim p1/\((∃c,bs[p1]?=H c/\CN bs l p1=AP/\c.toNat=O1 m/\R=.ok (U3 m [] [],p1+1)/\Cx bs lim (p1+1))\/((CN bs l p1=AQ\/∃c,bs[p1]?=H c/\CN bs l p1=AP/\¬c.toNat=O1 m)/\O2 m bs lim rd (K bs+1-p1) p1 [] [] R)):=by
 subst i;cases m
 .obtain⟨d,⟨c,a,b,e,f,g⟩|⟨a,b⟩⟩:=fL (itF:=G7 rd) (last:=93) (acc:=[]) hl hi h rfl
  .exact⟨d,AF ⟨c,a,b,e,by simp only[RW,cond,f];rfl,g⟩⟩
  exact⟨d,AG ⟨a,_,b,Z⟩⟩
 obtain⟨d,⟨c,a,b,e,f,g⟩|⟨a,b⟩⟩:=fL (itF:=FF bs lim rd) (last:=125) (acc:=([],[])) hl hi h rfl
 .exact⟨d,AF ⟨c,a,b,e,by simp only[RW,cond,f];rfl,g⟩⟩
 exact⟨d,AG ⟨a,_,b,Z⟩⟩
def Pc(m:AK)(bs:A1)(lim:AI)(rd:AH->AS (AI×AI) (AM Unit×AH))(p:AH)(kl:AJ A1)(ds:AJ<|AM Unit)(r:AS (AI×AI)<|(AJ A1×AJ (AM Unit))×AH):Prop :=
 bif m then At kl=At ds/\∃r',GI bs lim (FF bs lim rd (kl.reverse,FH kl ds) p) r'/\match r with
  |.error e=>r'=.error e
  |.ok (x,q)=>∃lk dd,r'=.ok ((lk::kl.reverse,FH kl ds++[(.string lk,dd)]),q)/\x=(kl++[lk],ds++[dd])
 else∃r',GI bs lim (rd p) r'/\match r with
  |.error e=>r'=.error e
  |.ok (x,q)=>∃dd,r'=.ok (dd,q)/\x=(kl,ds++[dd])
theorem gc(h:GI bs lim (rd p) r):GI bs lim (G7 rd ds p)<|match r with|.error e=>.error e|.ok (d,q)=>.ok (ds++[d],q):=by grind [GI,G7]
def gd(c:(p:J)=lim->p<n->rd p=.error (8,(p:J)))(a:(p:J)=lim)(b:p<n):G7 rd ds p=.error (8,(p:J)):=by simp only[G7,c a b]
def ge{f:J×J}(h:O2 m bs lim rd g p kl ds R)(hi:Pc m bs lim rd p kl ds<|.error f)(e:(p:J)=lim->p<K bs->rd p=.error (8,(p:J)))(b:∀p,DI<|rd p):R=.error f/\(f.1==0)=AQ:=by
 cases m
 .obtain⟨c,h,rfl⟩:=h;obtain⟨i,a,rfl⟩:=hi;have:=dZ a (b p) f.1 f.2 Z;exact⟨by rw[fQ h (gc a)<|gd e];rfl,by simpa using this⟩
 obtain⟨c,h,rfl⟩:=h;obtain⟨_,i,a,rfl⟩:=hi;have:=dZ a (dW b _ p) f.1 f.2 Z;exact⟨by rw[fQ h a λd a=>fU d a];rfl,by simpa using this⟩
def gm(hl:Lm bs l lim)(hi:Cx bs lim p):p<=EG bs l g p:=by
 rcases MI hl g p hi with⟨c,_,a,_,b,_⟩|⟨c,_,a,d,_⟩
 .rw[a];exact b
 rw[a];have:=hi.2;omega
theorem uZ{p3 p4:I}(hl:Lm bs l lim)(h:O2 m bs lim rd g p kl ds R)(hi:Pc m bs lim rd p kl ds<|.ok ((kl',ds'),q))(B:(p:J)=lim->p<K bs->rd p=.error (8,(p:J)))(A:∀p x q,rd p=.ok (x,q)->p<q)(v:Cx bs lim q)(t:K bs+1<=p+g)(u:p3=EG bs l (K bs+1-q) q)(L:p4=EG bs l (K bs+1-(p3+1)) (p3+1)):Cx bs lim p3/\((CN bs l p3=AQ/\R=.error (D5 bs l p3 9))\/∃c,bs[p3]?=H c/\CN bs l p3=AP/\((c.toNat=O1 m/\R=.ok (U3 m kl' ds',p3+1)/\Cx bs lim (p3+1))\/(¬c.toNat=O1 m/\c.toNat=44/\Cx bs lim (p3+1)/\∃j,g=j+2/\p<p3/\p3+1<=p4/\O2 m bs lim rd (j+1) p4 kl' ds' R)\/(¬c.toNat=O1 m/\¬c.toNat=44/\R=.error (D5 bs l p3 9)))):=by
 subst L;cases m
 .obtain⟨w,h,rfl⟩:=h;obtain⟨N,k,y,rfl,e⟩:=hi;cases e;obtain⟨r,a⟩:=fS hl h (gc k) (gd B) (λx q e=>by unfold G7 at e;grind) v t u;refine⟨r,?_⟩;rcases a with⟨a,rfl⟩|⟨c,a,f,⟨b,rfl,d⟩|⟨b,d,i,j,s,n,o⟩|⟨b,d,rfl⟩⟩
  .exact AF ⟨a,Z⟩
  .exact AG ⟨c,a,f,AF ⟨b,Z,d⟩⟩
  .exact AG ⟨c,a,f,AG<|AF ⟨b,d,i,j,s,n,gm hl i,_,eX hl i o,Z⟩⟩
  exact AG ⟨c,a,f,AG<|AG ⟨b,d,Z⟩⟩
 obtain⟨w,h,rfl⟩:=h;obtain⟨F,N,k,P,y,rfl,e⟩:=hi;cases e;obtain⟨r,a⟩:=fS hl h k (λz k=>fU z k) (λx q h=>X2 A _ _ _ _ h) v t u;refine⟨r,?_⟩;rw[<-XJ F]at a;rcases a with⟨a,rfl⟩|⟨c,a,f,⟨b,rfl,d⟩|⟨b,d,i,j,s,n,o⟩|⟨b,d,rfl⟩⟩
 .exact AF ⟨a,Z⟩
 .exact AG ⟨c,a,f,AF ⟨b,Z,d⟩⟩
 .exact AG ⟨c,a,f,AG<|AF ⟨b,d,i,j,s,n,gm hl i,_,SP▸eX hl i o,Z⟩⟩
 exact AG ⟨c,a,f,AG<|AG ⟨b,d,Z⟩⟩
def KM(m:AK)(k:AH)(V:Ap)(b:AH)(kv u:Aq)(kl:AJ A1)(ds:AJ<|AM Unit):Prop:=bif m then G8 k V b kv u (λ_=>False) kl ds else(kl=[]/\kv=Cq)/\IR k V b u (λ_=>False) ds
theorem KM.next(h:KM m k V b kv u kl ds)(d:O (U V)<=O (U V'))(c:∀j,b<=j->j<O (U V)->V'.heap[j]?=V.heap[j]?):KM m k V' b kv u kl ds:=by
 cases m
 .exact⟨h.1,IR.next h.2 d c⟩
 exact G8.next h d λj a b _=>c j a b
def KM.ai(h:KM m k V b kv u kl ds)(a:B<=b):CV (k+1) V (λj=>B<=j/\j<O (U V)) (.agg<|Cg (FJ m) 0 ⟨#[]⟩ kv u)<|U3 m kl ds:=by
 cases m
 .obtain⟨⟨rfl,rfl⟩,h⟩:=h;exact IR.ac h a
 exact G8.map h a
def vb{n:J}(h:FV W A (Cg kd n s kv u) V)(a:Aq):FV W A (Cg kd n s kv a)<|AB V ⟨O (U W)+1+1+1,4,Ao⟩ a:=uO h
def vd(h:Pc m bs lim rd p kl ds<|.ok ((kl',ds'),q)):K ds'=K ds+1:=by
 cases m
 .obtain⟨_,_,_,_,h⟩:=h;cases h;simp
 obtain⟨_,_,_,_,_,_,h⟩:=h;cases h;simp
def ve(h:O2 m bs lim rd g p kl ds R):Cx bs lim p:=by cases m<;>(obtain⟨_,h,_⟩:=h;exact h.1)
def gn(c:AU)(L:J)(h:L=n):(c.toNat=n->((c.toNat:J)==L)=AP/\((c.toNat:J) != L)=AQ)/\(¬c.toNat=n->((c.toNat:J)==L)=AQ/\((c.toNat:J) != L)=AP):=by subst h;simp;omega
def XN:KM m k V b Cq Cq [] []:=by
 cases m
 .exact⟨⟨Z,Z⟩,XB⟩
 exact uK
def vf(t:m=AQ)(h:Fc k bs lim W (rd p) e W'):∃c n s a i j b d x z F,e=Ak (Af #[.agg<|Cg c n s (G a i j)<|G b d x,C Y z,.agg<|Cf F])/\(Pc m bs lim rd p kl ds (.error F)\/F=(0,0)/\∃(g:A2) (q:I),z=q/\Cx bs lim q/\CV k W' (λj=>O (U W)<=j/\j<O (U W')) (.agg<|Cg c n s (G a i j)<|G b d x) g/\Pc m bs lim rd p kl ds (.ok ((kl,ds++[g]),q))):=by
 subst t;obtain⟨_,u,l,h⟩:=h;obtain f|y:=u
 .obtain⟨c,n,s,a,i,j,b,d,x,z,h⟩:=h;exact⟨c,n,s,a,i,j,b,d,x,z,f,h,AF ⟨_,l,Z⟩⟩
 obtain⟨o,c,n,s,a,i,j,b,d,x,h,r⟩:=h;exact⟨c,n,s,a,i,j,b,d,x,y.2,(0,0),h,AG ⟨Z,y.1,y.2,Z,o,r,_,l,_,Z,Z⟩⟩
def vh(B:m=AP){b0:I}{ex:I->Prop}(h:fO k bs lim W b0 kv u ex kl ds (FF bs lim rd (kl.reverse,FH kl ds) p) e W')(o:K kl=K ds):∃d n s a i j b c x z F,e=Ak (Af #[.agg<|Cg d n s (G a i j)<|G b c x,C Y z,.agg<|Cf F])/\(Pc m bs lim rd p kl ds (.error F)\/F=(0,0)/\(d=7/\n=0/\s=⟨#[]⟩)/\∃r g,∃q:I,z=q/\Cx bs lim q/\G8 k W' b0 (G a i j) (G b c x) ex r g/\Pc m bs lim rd p kl ds (.ok ((r,g),q))):=by
 subst B;obtain⟨_,N,l,h⟩:=h;obtain f|y:=N
 .obtain⟨d,n,s,a,i,j,b,c,x,z,h⟩:=h;exact⟨d,n,s,a,i,j,b,c,x,z,f,h,AF ⟨o,_,l,Z⟩⟩
 obtain⟨v,L,t,a,i,j,b,c,x,w,h,A⟩:=h;exact⟨7,0,⟨#[]⟩,a,i,j,b,c,x,y.2,(0,0),h,AG ⟨Z,⟨Z,Z,Z⟩,_,_,y.2,Z,v,A,o,_,l,L,t,by rw[<-w],Z⟩⟩
theorem gp(k:I)(W:X)(dp:J){c:AU}(hc:bs[i]?=H c)(hv:c.toNat=bif m then 123 else 91)(hp:¬(i:J)=lim)(hl:Lm bs l lim)(hi:Cx bs lim i)(hb:K bs<=281474976710656)(cl:lim<=200000000)(c7:0<=dp)(dm:dp<d)(dn:d<=100000)(cg:∀p,DI<|rd p)(cm:∀p:I,(p:J)=lim->p<K bs->rd p=.error (8,(p:J)))(ci:∀p dl ag,rd p=.ok (dl,ag)->p<ag)(cJ:∀V (p:I),Cx bs lim p->Ar As 90 #[.agg<|Ct bs fm d l,C Y p,C Y<|dp+1] V (Fc k bs lim V<|rd p)):Ar As 129 #[.agg<|Ct bs fm d l,C Y i,C Y dp] W<|Fc (k+1) bs lim W<|RW m bs lim rd<|i+1:=by
 obtain⟨ti,dh,dc,df,dg⟩:=DL Tryz.infoThR;obtain⟨a3,HR⟩:=CC<|RW m bs lim rd<|i+1;rw[AE HR];have dr:=Dk hc;have dt:=Et (bs:=bs) (k:=i) (c:=c) hc;have dk:((c.toNat:J)==123)=m:=by rw[hv];cases m<;>rfl
 have cj:=Eu hi hc hp;have HL:=C9 hl;have cH:=NL bs fm d l;have cB:=OX bs fm d l;have cS:=λV p hp=>Ty V (bs:=bs) fm d l (i:=p) hb hp;have bx:D (∀V (p:I),Cx bs lim p->Ar As 90 #[Ag #[Ae ⟨Aw bs⟩,C Y fm,C Y d,C Y l],C Y p,C Y<|dp+1] V (Fc k bs lim V<|rd p)):=cJ;have bv:=C9 cg;have ay:=C9 cm;have cr:=C9 ci;have a4:=λV=>cS V (i+1) E;obtain⟨A,bp⟩:=IB<|EG bs l (K bs+1-(i+1))<|i+1;obtain⟨bq,bu⟩:=uY (m:=m) hl cj bp HR;rw[<-bp]at a4;have dx:=bq.1;have bh:=λV=>cH V A;have dq:AR (d<=dp)=AQ:=B7;have bu:(CN bs l A=AQ/\D (O2 m bs lim rd (K bs+1-A) A [] [] a3))\/∃B,bs[A]?=H B/\CN bs l A=AP/\(((B.toNat:J)==bif m then 125 else 93)=AQ/\D (O2 m bs lim rd (K bs+1-A) A [] [] a3)\/((B.toNat:J)==bif m then 125 else 93)=AP/\D (a3=.ok (U3 m [] [],A+1)/\Cx bs lim (A+1))):=by unfold D;cases m<;>simp only[O1,cond]at bu ⊢<;>grind
 have cs:=C9 bq;clear hc hv hp hl hi cj cJ ci cg cm bp HR bq;rcases bu with⟨hh,N⟩|⟨B,af,hh,h⟩
 case' inr=>have dv:=λV=>Et (bs:=bs) (k:=A) (c:=B) af V;have d2:=Dk af;clear af;rcases h with⟨ar,N⟩|⟨ar,a0⟩
 all_goals
  rw[hh]at bh;clear hh;rcases Bool.eq_false_or_eq_true m with P|P
  case' inl=>have bm:FJ m=7:=kfO
  case' inl=>have b5:=C9 P;have a2:=C9 (λc=>gn c 125<|show(125:J)=O1 m by rw[P];rfl)
  case' inr=>have bm:FJ m=6:=kfO
  case' inr=>have bd:=C9 P;have a2:=C9 (λc=>gn c 93<|show(93:J)=O1 m by rw[P];rfl)
 all_goals
  rw[P]at dk
  try(simp only[P,cond]at ar)
  have am:=C9 bm;clear P bm;unfold Ct;go_enter func129,ntmps129
  go_wp2_with(first
   |(go_at_call 83;(first|refine MJ (a4 _) w.next ?_|refine MJ (a4 _) (uS w 7).next ?_);clear a4 n r c2 u k0 f0;intro w2 c6 Q;obtain⟨n,r,c2,u⟩:=Eb Q.h)
   |(go_at_call 116;refine MJ (bh _) Q.next ?_;clear bh n r c2 u;intro w3 ak a;rw[<-AE am]at a;obtain⟨n,r,c2,u⟩:=Eb a.h)
   |((with_reducible refine zT 9 21 rfl rfl (O (U W)+3) (Cg 6 0 ⟨#[]⟩ Cq Cq) ?_ ?_);exact⟨Z,Z,uG W,thg⟩;refine aI (uF W<|Cg 6 0 ⟨#[]⟩ Cq Cq) ?_;intro V0 w;obtain⟨n,r,c2,u⟩:=Eb w.h;have k0:A6 V0 (O (U W)+1+1+1) 0<|C Y 6:=Cc w.d 0;have f0:=Dy V0 (O (U W)+3) 0 _ _ w.d)
   |((with_reducible refine CO rfl 101 (.tmp 9) rfl (O (U W)+3) ?hx 101 (Cg (FJ m) 0 ⟨#[]⟩ Cq Cq) (0,0) _ ?hg underlying101 rfl ?hi ?_);(case hx=>exact rfl);(case hg=>exact a.d);(case hi=>exact NM))
   |((with_reducible refine zT 6 43 rfl rfl (O (U W)+1) (Cg (FJ m) 0 ⟨#[]⟩ Cq Cq) ?_ ?_);exact⟨Z,Z,a.b,thg⟩)
   |((with_reducible refine zF 8 46 rfl rfl (O (U W)+2) (0,0) ?_ ?_);exact⟨Z,Z,Gm a.ad CT⟩))
 all_goals try
  have hr:=AE a0;refine F4 results129 (EO a.ad CT _ (0,0)) (C Y<|(A:J)+1) Z Z Z Z ⟨(EO a.ad CT _ (0,0)).2.2,?_⟩;refine⟨_,AF hr.1,hr.2,_,_,_,_,_,_,_,_,_,Z,?_⟩;exact(XN (m:=m) (k:=k) (b:=O<|U W)).ai<|Cr _
 all_goals
  go_loopg[1] (K bs+1-A) (λg z wr=>∃(p:I) (kl:AJ A1) (ds:AJ<|AM Unit) (ka:A4) (kn kc:I) (ua:A4) (un uc:I),z=C Y p/\D (K bs+1<=p+g)/\D (O2 m bs lim rd g p kl ds a3)/\D (K ds<=p)/\D (Cx bs lim p)/\D (FV W (Ct bs fm d l) (Cg (FJ m) 0 ⟨#[]⟩ (G ka kn kc)<|G ua un uc) wr)/\D (KM m k wr (O (U W)+4) (G ka kn kc) (G ua un uc) kl ds))
  exact⟨A,[],[],Ao,0,0,Ao,0,0,Z,Bp,N,Ex _,cs,a,XN⟩;clear N w Q a c6 ak n r c2 u;obtain⟨p,kl,ds,ka,kn,kc,ua,un,uc,rfl,hg,N,a7,HI,w,ai⟩:=hrel;have d1:=Int.le_trans HI.2 cl;have dw:=HI.1;have d6:=w.size;rw[AE am]at w;obtain⟨n,r,c2,u⟩:=Eb w.h;have k0:A6 wr (O (U W)+1+1+1) 0<|C Y<|FJ m:=AE am▸Cc w.d 0;have k4:A6 wr (O (U W)+1+1+1) 4<|G ua un uc:=Cc w.d 4;have n0:O (U W)+1+1+1<O (U wr):=E;have n2:O (U W)+3<O (U wr):=E;have n1:O (U W)<O (U wr):=E;rw[AE am]at k0
  go_wp2_with(first
   |((with_reducible refine CO rfl 101 (.tmp 9) rfl (O (U W)+3) ?hx 101 (#[C Y 7,C Y 0,Ae ⟨#[]⟩,G ka kn kc,G ua un uc]) (0,0) _ ?hg underlying101 rfl ?hi ?_);(case hx=>exact rfl);(case hg=>exact(CB _ _ _ E).trans w.d);(case hi=>exact KI)))
  clear n r c2 u k0 k4 n0 n1 n2
  try
   have ai:KM AQ k wr (O (U W)+4) (G ka kn kc) (G ua un uc) kl ds:=AE bd▸AE ai;refine(bx _ p HI).mono ?_;rintro e w2 R;obtain⟨kk,nn,s,f,q,j1,x,q1,m1,z,F,rfl,y⟩:=vf bd (kl:=kl) (ds:=ds) R;have d5:O (U wr)+2<=O (U w2):=by have:=R.1.size;simp only[CL,A0]at this;omega
   have ak:Below (O (U wr)+2) (Az (Az wr<|M (Cf (0,0)) 103)<|M Cv 101) w2:=by have h:=R.1;simp only[CL,A0]at h;exact h
   have HV:=C9 λcy c5=>uH (wr:=wr) (w2:=w2) cy c5 ak;have HK:D<|A7 w2 (O (U wr)+1) Cv 101:=(ak.block _ E).trans (by have:=Cj (Az wr<|M (Cf (0,0)) 103) (o:=(M Cv 101));simpa only[CL]using this);have HF:=C9<|(ak.block _ E).trans<|(CB _ _ _ Ba).trans<|Cj _;have bf:D (∀g,Ax (AX ua un uc)=H g->g<O (U wr)):=by obtain⟨xs,ho,_⟩   := ai.2;exact λg hg=>En ho hg
   rcases y with y|⟨hF,dd,ag,rfl,aq,hA,y⟩
   case' inl=>obtain⟨hE,a9⟩:=ge N y (ay p) bv;have HE:=C9 hE;clear hE y
   case' inr =>
    have a9:(F.1==0)=AP:=kfH;have ax:=C9 y;have az:=C9 aq;have HA:D<|CV k w2 (λj=>O (U wr)+2<=j/\j<O (U w2)) (Ag #[C Y kk,C Y nn,.string s,G f q j1,G x q1 m1]) dd:=hA.same (λj v=>⟨by have:=v.1;simp only[CL,A0]at this;omega,v.2⟩) λ_ _=>rfl;clear hA aq y hF
   all_goals
    clear R ak;simp only[]
    go_wp2_with(first
     |((with_reducible refine zT 12 65 rfl rfl (O (U wr)+1) (Cg kk nn s (G f q j1)<|G x q1 m1) ?_ ?_);exact⟨Z,Z,HK,thg⟩)
     |((with_reducible refine zF 11 67 rfl rfl (O<|U wr) F ?_ ?_);exact⟨Z,Z,sx E HF⟩;refine FA ?_;intro V2 ah;have Q:=C9<|ah▸w.next (HV _ _);have ba:D (O (U V2)=O (U w2)/\∀j,O (U wr)+2<=j->V2.heap[j]?=w2.heap[j]?):=ah▸⟨Ba,λj v=>BP⟩;have b3:=C9<|ah▸IR.next ai.2 (HV _ _).size λj _ v=>(HV _ _).block j v;have b2:D<|A7 V2 (O (U wr)+1) #[C Y kk,C Y nn,.string s,G f q j1,G x q1 m1] 101:=ah▸sx E (CR _ _ _ _ _ _ HK);have av:=C9<|ah▸CR _ _ _ _ _ _ (sx E HF);clear ah;obtain⟨xs,ho,ch⟩:=AE b3;have HO:=C9 ho;have bw:=C9 ch;clear ho ch b3;obtain⟨n,r,c2,u⟩:=Eb Q.h;have k4:A6 V2 (O (U W)+1+1+1) 4<|G ua un uc:=Cc Q.d 4)
     |((with_reducible refine CO rfl 101 (.tmp 12) rfl (O (U wr)+1) ?hx 101 (#[C Y kk,C Y nn,.string s,G f q j1,G x q1 m1]) (0,0) _ ?hg underlying101 rfl ?hi ?_);(case hx=>exact rfl);(case hg=>exact b2);(case hi=>exact KI))
     |(at_builtin;(refine JH Z (t:=99) Z (base:=(O (U W)+4)) (e:=101) (i:=ti) (z:=(.agg Cv)) (size:=5) (bytes:=80) underlying99 dh dc df dg Z B8 Z (HO.alloc _) (ad:=⟨O<|U V2,0,Ao⟩) 1 1 (news:=[C Y kk,C Y nn,.string s,G f q j1,G x q1 m1]) Z Z (EU) (U1) B8 (B4<|AE a7) (AY<|AE a7) (B0 Q.size) ?_);intro v' w5 bo a8 co;obtain⟨g5,ao,rfl⟩:=ownsRow_succ bo;have an:=C9<|uN Q HO a8;have bc:=C9<|(a8.block _ (B1<|Cd av) λe=>AY<|bf.out _ e.symm).trans<|(CB _ _ _<|Cd av).trans av;have b8:=C9 bo;have b0:=C9 a8;have ca:=C9 co;clear bo a8 co n r c2 u k4;have k4:A6 w5 (O (U W)+1+1+1) 4<|G ua un uc:=Cc an.d 4;have f4:=Dy w5 (O (U W)+3) 4 _ _ an.d;have u0:A6 w5 (O<|U wr) 0<|C Y F.1:=Cc bc 0;obtain⟨n,r,c2,u⟩:=Eb an.h))
    have aa:=C9<|vb an<|G (Aa g5) (K ds+1) ao;have aw:=C9<|(CY w5 ⟨O (U W)+1+1+1,4,Ao⟩ (O<|U wr) (G (Aa g5) (K ds+1) ao) B7).trans bc
    try
     have be:D<|KM m k (AB w5 ⟨O (U W)+1+1+1,4,Ao⟩<|G (Aa g5) (K ds+1) ao) (O (U W)+4) (G ka kn kc) (G (Aa g5) (K ds+1) ao) kl<|ds++[dd]:=KM.next (AE bd▸(⟨ai.1,IR.push (L:=O (U wr)+2) HO bw (HA.same (λj v=>⟨v.1,by rw[ba.1];exact v.2⟩) λj v=>ba.2 j v.1) (λg hg=>AY<|bf.out g hg) E (λ_ _ h=>h) Z b8 b0 ca⟩:KM AQ k w5 _ _ _ _ _)) Bd λj c9 da=>CY w5 _ _ _ B7
    generalize AB w5 ⟨O (U W)+1+1+1,4,Ao⟩ (G (Aa g5) (K ds+1) ao)=V6 at *;clear an bc k4 f4 HO bw Q b2 av HK HF HV w b8 b0 ca ba bf n r c2 u u0
  try
   have bn:=AE b5;have ac:G8 k wr (O (U W)+4) (G ka kn kc) (G ua un uc) (λ_=>False) kl ds:=by have:=AE ai;rw[bn]at this;exact this
   have b7:=(ac.ac (ex':=λj=>j=O (U wr)) λj h=>AG<|OH h.symm).next (V':=Az wr<|M (Cf (0,0)) 103) Ba λj _ v _=>CB _ _ _ v
   refine(uR (k:=k) (bs:=bs) (fm:=fm) (d:=d) (l:=l) (lim:=lim) (i:=p) (dp:=dp) (b:=(O (U W)+4)) (ka:=ka) (ua:=ua) (kn:=kn) (kc:=kc) (un:=un) (uc:=uc) (ex:=(λj=>j=O (U wr))) (kl:=kl) (ds:=ds) HL HI hb cl b7 (B3 (AE a7) ac.len) (rd:=rd) ay B7 (λj h=>by subst h;simp) c7 E bx).mono ?_;rintro e w2 R;obtain⟨kk,nn,s,f,q,j1,x,q1,m1,z,F,rfl,y⟩:=vh bn R ac.len;have b4:=λg e=>OL (DK ac.q (g:=g) e)<|En ac.q e;have b9:∀g,Ax (AX ua un uc)=H g->O (U W)+4<=g/\g<O (U wr):=by obtain⟨xs,ho,_⟩:=ac.c;exact λg e=>⟨DK ho e,En ho e⟩
   have bb:=C9<|uT (w.next Cm) R.1 (λg e=>(b4 g e).1) λg e=>(b9 g e).1;have HF:=C9<|(R.1.block _ Ba (λe=>B9) λe=>B9).trans<|Cj _;rcases y with y|⟨hF,ck,di,c4,ag,rfl,aq,hM,y⟩
   case' inl=>obtain⟨hE,a9⟩:=ge N y (ay p) bv;have HE:=C9 hE;clear hE y
   case' inr =>
    have a9:(F.1==0)=AP:=kfH;have ax:=C9 y;have az:=C9 aq;have HM:=C9 hM;have cu:=C9 ck;clear hM aq y hF ck
   all_goals
    clear R b4 b9 b7 ac bn;simp only[]
    go_wp2_with(first
     |((with_reducible refine D8 rfl 101 (.tmp 9) (.tmp 56) rfl (O (U W)+3) (Cg kk nn s (G f q j1)<|G x q1 m1) ?hx ?hy 101 (Cg 7 0 ⟨#[]⟩ (G ka kn kc)<|G ua un uc) ?hg ?hi ?hs ?h1 ?_);(case hx=>exact rfl);(case hy=>exact rfl);(case hg=>exact bb.d);(case hi=>exact NM);(case hs=>exact rfl);(case h1=>grind [de]))
     |((with_reducible refine zF 11 58 rfl rfl (O<|U wr) F ?_ ?_);exact⟨Z,Z,sx E HF⟩;refine FA ?_;intro V6 au;have aa:=C9<|au▸uV (uU bb) E;have aw:=C9<|au▸CR _ _ _ _ _ _ (sx E HF);have bz:=C9 au;clear au;obtain⟨n,r,c2,u⟩:=Eb aa.h;have u0:A6 V6 (O<|U wr) 0<|C Y F.1:=Cc aw 0))
    try
     have be:D<|KM m k V6 (O (U W)+4) (G f q j1) (G x q1 m1) di c4:=AE b5▸AE bz▸(HM.next (V':=AD (AD w2 (O (U W)+3)<|Cg kk nn s (G f q j1)<|G x q1 m1) (O<|U wr)<|Cf F) Ba λj h1 _ hx=>by grind [setRow_other]).ac λ_ h=>h.elim;obtain⟨rfl,rfl,rfl⟩:=AE cu
    clear bb HF bz w n r c2 u u0
  all_goals try
   have hE:=HE;refine Dl (S:=λbg=>A7 bg (O<|U wr) (Cf F) 103) aw B6 λhS=>Ch 0 77 (.agg Cv) Z (λbg hZ=>C0) hS <| Ch 1 78 (.agg<|Cf F) Z (λbg hZ=>yF 11 hZ Z Z) hS ?_;have bk:=(Do _ (O (U W)+1) (O<|U wr) Cv E).trans hS;refine Ij 2 6 77 (g:=(O (U W)+1)) (T:=Cv) B6 aa.b thg bk <| Cb 3 7 (C Y 0) bk <| sF 4 8 78 (g:=(O (U W)+2)) (F:=F) B6 (Gm (V:=V6) aa.ad CT) (sx E bk) <| CK ?_;go_simp;go_wp2;refine F4 results129 (EO aa.ad.drew CT Cv F) (C Y 0) Z Z Z Z ⟨(EO aa.ad.drew CT Cv F).2.2,?_⟩;exact⟨.error F,AF HE,_,_,_,_,_,_,_,_,_,_,Z⟩
  obtain⟨p3,br⟩:=IB<|EG bs l (K bs+1-ag) ag;obtain⟨p4,bt⟩:=IB<|EG bs l (K bs+1-(p3+1))<|p3+1;obtain⟨cn,db⟩:=uZ HL N ax (ay p) cr az hg.out br bt;have bi:=λV=>cS V ag az.1;rw[<-br]at bi;have cc:=λV=>cH V p3;have cz:=λV=>cB V p3 9;have d4:=az.1;have d0:=cn.1;refine(bi _).mono ?_;rintro e w7 ⟨rfl,a6⟩;obtain⟨x1,x2,x3,y1,y2,y3,cb,cv⟩:∃x1 x2 x3 y1 y2 y3,D (FV W (Ct bs fm d l) (Cg (FJ m) 0 ⟨#[]⟩ (G x1 x2 x3)<|G y1 y2 y3) w7)/\D (KM m k w7 (O (U W)+4) (G x1 x2 x3) (G y1 y2 y3) _ _):=⟨_,_,_,_,_,_,by rw[AE am];exact aa.next a6,be.next a6.size λj _ v=>a6.block j v⟩
  have cq:=C9<|vd ax;clear br bi aa be a6 aw cn ax N a9;simp only[];obtain⟨n,r,c2,u⟩:=Eb cb.h;rcases db with⟨hh,al⟩|⟨B,af,hh,hx⟩
  case' inr=>have du:=λV=>Et (bs:=bs) (k:=p3) (c:=B) af V;have dz:=Dk af;clear af;rcases hx with⟨aj,al,ap⟩|⟨aj,a5,ap,g',c8,d3,dy,bl⟩|⟨aj,a5,al⟩
  case' inl=>have HE:=C9 al;generalize D5 bs l p3 9=xx at *
  case' inr.inl=>obtain⟨ar,cp⟩:=(a2 B).1 aj;have a0:=C9 al;have cx:=C9 ap;clear ap
  case' inr.inr.inl=>obtain⟨ar,cp⟩:=(a2 B).2 aj;have dj:((B.toNat:J) != 44)=AQ:=by rw[a5];rfl
  case' inr.inr.inl=>have cd:=λV=>cS V (p3+1) ap.1;rw[<-bt]at cd;have N:=C9 bl;have ct:=C9<|ve bl;clear a5 bl ap
  case' inr.inr.inr=>obtain⟨ar,cp⟩:=(a2 B).2 aj;have dj:((B.toNat:J) != 44)=AP:=B7
  case' inr.inr.inr=>have HE:=C9 al;generalize D5 bs l p3 9=xx at *;clear a5
  all_goals
   rw[hh]at cc;clear hh cS cH cB bt
   try clear aj
   try clear al
   go_wp2_with(first
    |(go_at_call 116;refine MJ (cc _) cb.next ?_;clear n r c2 u;intro w8 cf ab;have b6:=C9<|cv.next cf.size λj _ v=>cf.block j v;obtain⟨n,r,c2,u⟩:=Eb ab.h)
    |(go_at_call 84;refine MJ (cz _) ab.next ?_;clear n r c2 u;intro w9 bj ae)
    |(go_at_call 83;refine MJ (cd _) ab.next ?_;clear n r c2 u;intro w9 bj ae;have cw:=C9<|b6.next bj.size λj _ v=>bj.block j v;obtain⟨n,r,c2,u⟩:=Eb ae.h)
    |((with_reducible refine CO rfl 101 (.tmp 9) rfl (O (U W)+3) ?hx 101 (Cg (FJ m) 0 ⟨#[]⟩ (G x1 x2 x3)<|G y1 y2 y3) (0,0) _ ?hg underlying101 rfl ?hi ?_);(case hx=>exact rfl);(case hg=>exact ab.d);(case hi=>exact NM))
    |((with_reducible refine zT 6 111 rfl rfl (O (U W)+1) (Cg (FJ m) 0 ⟨#[]⟩ (G x1 x2 x3)<|G y1 y2 y3) ?_ ?_);exact⟨Z,Z,ab.b,thg⟩)
    |((with_reducible refine zF 8 114 rfl rfl (O (U W)+2) (0,0) ?_ ?_);exact⟨Z,Z,Gm ab.ad CT⟩)
    |((with_reducible refine zT 6 101 rfl rfl (O (U W)+1) (Cv) ?_ ?_);exact⟨Z,Z,ae.b,thg⟩)
    |((with_reducible refine zF 8 104 rfl rfl (O (U W)+2) xx ?_ ?_);exact⟨Z,Z,Gm ae.ad CT⟩))
  all_goals try
   have hE:=HE;refine F4 results129 (EO ae.ad CT Cv xx) (C Y 0) Z Z Z Z ⟨(EO ae.ad CT Cv xx).2.2,?_⟩;exact⟨.error xx,AF HE,_,_,_,_,_,_,_,_,_,_,Z⟩
  all_goals try
   have hE:=a0;refine F4 results129 (EO ab.ad CT (Cg (FJ m) 0 ⟨#[]⟩ (G x1 x2 x3)<|G y1 y2 y3) (0,0)) (C Y<|(p3:J)+1) Z Z Z Z ⟨(EO ab.ad CT _ (0,0)).2.2,?_⟩;exact⟨_,AF a0,cx,_,_,_,_,_,_,_,_,_,rfl,(b6.next Ba λj c9 da=>BP).ai E⟩
  subst c8;go_roundg (g'+1);exact⟨p4,_,_,_,_,_,_,_,_,Z,by show _<=_;have:=AE hg;omega,N,by show _<=_;have:=AE a7;have:=AE cq;omega,ct,ae,cw⟩;omega
def vk(r:AS (AI×AI)<|AJ (Lit×AM Unit)×AH):AS (AI×AI)<|AM Unit×AH:=match r with
 |.error e=>.error e
 |.ok (es,q)=>.ok (.map es,q)
def O3(m:AK)(kf:AJ A1->AH->A5 A1)(rd:AH->AS (AI×AI) (AM Unit×AH))(x p:AH)(kl:AJ A1)(ds:AJ<|AM Unit):AS (AI×AI) (AM Unit×AH) :=
 bif m then vk (GK kf rd x p kl.reverse<|FH kl ds)else XI (GY rd x p ds)
structure MS(W wr:Ap)(A H y:A3)(M:AH)(G:A3)(F:AI×AI)(V:Ap):Prop where
 a:EW W A H y V
 fl:V.heap[M+1]?=An (Aj (Cf F) 103)
 c:V.heap[M]?=An (Aj G 237)
 b:A0 wr V
 f:Au (Av wr)<=M
theorem MS.next{H G:A3}{M:I}(h:MS W wr A H y M G F V)(hb:A0 V V'):MS W wr A H y M G F V' :=
 ⟨h.a.next hb,(hb.block _<|Cd h.fl).trans h.fl,(hb.block _<|Cd h.c).trans h.c,h.b.trans<|hb.mono h.b.size,h.f⟩
def MS.st{H G:A3}{M:I}(h:MS W wr A H y M G F V)(b:O (U W)+5<=M)(a:J×J):MS W wr A H y M G a (AD V (M+1)<|Cf a) :=
 ⟨h.a.else _ E _,CR _ _ _ _ _ _ h.fl,sx E h.c,Dq h.b<|AY h.f,h.f⟩
def MS.cs{H:A3}{n q:J}{o:AK}{M:I}(h:MS W wr (Ct bs fm d l) H y M (Da a n q o) F V):(A6 V (O<|U W) 0 (Ae ⟨Aw bs⟩)/\A6 V (O<|U W) 1 (C Y fm)/\A6 V (O<|U W) 2 (C Y d)/\A6 V (O<|U W) 3 (C Y l))/\A6 V M 1 (C Y n)/\A6 V M 2 (C Y q)/\A6 V (M+1) 0 (C Y F.1) :=
 ⟨Eb h.a.h,Cc h.c 1,Cc h.c 2,Cc h.fl 0⟩
def IS.ai(h:IS k V b kv u kl ds)(c:bif m then K kl=K ds else kl=[]/\kv=Cq)(a:B<=b):CV (k+1) V (λj=>B<=j/\j<O (U V)) (.agg<|Cg (FJ m) 0 ⟨#[]⟩ kv u)<|bif m then .map (FH kl ds)else .agg ds:=by
 cases m
 .obtain⟨rfl,rfl⟩:=c;exact h.c.ac a
 exact h.map c a
theorem vm{n q:J}{o:AK}(hl:Lm bs l lim)(hi:Cx bs lim p)(j:∀k w x r,Eo fm bs lim p=.ok (k,w,x,r)->a=J7 k/\n=nR k w x/\q=(r:J)/\o=In k x/\F=(0,0))(m:∀f,Eo fm bs lim p=.error f->F=f):(CN bs l p=AQ/\(F.1==0)=AQ/\El (DS fm) bs lim kl.reverse p=.error F)\/∃c,bs[p]?=H c/\CN bs l p=AP /\
   (((DS fm c.toNat).1=8/\(F.1==0)=AQ/\El (DS fm) bs lim kl.reverse p=.error F)\/(¬(DS fm c.toNat).1=8/\D5 bs l p 9=(9,(p:J))/\El (DS fm) bs lim kl.reverse p=.error (9,(p:J))) \/
   ((DS fm c.toNat).1=8/\F=(0,0)/\∃x r:I,n=min (x:J) 9223372036854775807/\q=r/\Cx bs lim r/\p<r/\El (DS fm) bs lim kl.reverse p=match Ds bs lim x r [] 0 with
        |.error e=>.error e
        |.ok (l,r)=>if l∈kl then .error (12,(r:J)-1)else .ok (l,r))):=by
 have N:=hi.1;rcases RA (bs:=bs) (lim:=lim) p with L|⟨c,d,h⟩
 .have B:Eo fm bs lim p=.error (D5 bs l p 9)/\El (DS fm) bs lim kl.reverse p=.error (D5 bs l p 9)/\CN bs l p=AQ/\¬(D5 bs l p 9).1=0:=by grind [Eo,El,IN,Id,Gl,Hs]
  grind
 refine AG ⟨c,d,J5 hl hi d h,?_⟩;have z:=Eu hi d h;have b:El (DS fm) bs lim kl.reverse p=if(DS fm c.toNat).1=8 then(match CZ bs lim (DS fm c.toNat).2.1 (p+1) (DS fm c.toNat).2.2 with
      |.error e=>.error e
      |.ok (x,q)=>match Ds bs lim x q [] 0 with
       |.error e=>.error e
       |.ok (l,r)=>if l∈kl.reverse then .error (12,(r:J)-1)else .ok (l,r))else .error (9,(p:J)):=by
  unfold El;rw[d];simp only[];rw[Cl h];try rfl
 by_cases g:(DS fm c.toNat).1=8
 .rw[Cp g]at b;have i:Eo fm bs lim p=match CZ bs lim (DS fm c.toNat).2.1 (p+1) (DS fm c.toNat).2.2 with
      |.error f=>.error f
      |.ok (x,q)=>.ok (8,(DS fm c.toNat).2.1,x,q):=by
   unfold Eo;rw[d];simp only[];rw[Cl h,g,Cl B8];try rfl
  rcases har:CZ bs lim (DS fm c.toNat).2.1 (p+1) (DS fm c.toNat).2.2 with f|y
  .rw[har]at b i;obtain rfl:=m _ i;exact AF ⟨g,B2<|Qi _ _ _ F.1 F.2 har,b⟩
  rw[har]at b i;obtain⟨_,s,t,_,u⟩:=j _ _ _ _ i;obtain⟨A,v⟩:=Qo _ _ _ _ _ z har;simp only[aE]at b;exact AG<|AG ⟨g,u,y.1,y.2,s,t,v,E,b⟩
 rw[Cl g]at b;exact AG<|AF ⟨g,Ie hl hi d h 9,b⟩
def gq{kf:AJ A1->I->A5 A1}{kj r:I}{ks:AJ A1}(g:O3 m kf rd (x-kj) p kl ds=R)(hx:kj<x)(b:bif m then K kl=K ds/\∃t,kf kl.reverse p=.ok (t,r)/\ks=kl++[t]else p=r):(∀f,rd r=.error f->R=.error f)/\∀a c,rd r=.ok (a,c)->O3 m kf rd (x-(kj+1)) c ks (ds++[a])=R:=by
 rw[<-g,show x-kj=(x-(kj+1))+1 by omega];cases m
 .cases b;simp only[O3,cond,GY];exact⟨λf h=>keS,λd q h=>by rw[h]⟩
 obtain⟨i,t,e,rfl⟩:=b;simp only[O3,cond,GK,e];exact⟨λf h=>keS,λd q h=>by rw[h,XJ i,SP];rfl⟩
theorem vo(h:Jn k bs lim W r e W'):∃c n s a i j b p m z F,e=Ak (Af #[.agg<|Cg c n s (G a i j)<|G b p m,C Y z,.agg<|Cf F])/\(∀f,r=.error f->F=f)/\∀d q,r=.ok (d,q)->F=(0,0)/\z=(q:J)/\Cx bs lim q/\CV k W' (λj=>O (U W)<=j/\j<O (U W')) (.agg<|Cg c n s (G a i j)<|G b p m) d:=by
 obtain⟨_,h⟩:=h;obtain f|y:=r
 .obtain⟨c,n,s,a,i,j,b,p,m,z,h⟩:=h;exact⟨c,n,s,a,i,j,b,p,m,z,f,h,Ba⟩
 obtain⟨g,c,n,s,a,i,j,b,p,m,h,l⟩:=h;exact⟨c,n,s,a,i,j,b,p,m,y.2,(0,0),h,B9⟩
theorem gu(m:AK)(W:X){q0:I}{n:J}(o:AK)(hn:n=min (x:J) 9223372036854775807)(hl:Lm bs l lim)(hi:Cx bs lim q0)(hb:K bs<=200000000)(cz:0<=dp)(c4:dp<=100000)(bq:fm=2\/fm=3)(bj:∀p,DI<|rd p)(br:∀p x b4,rd p=.ok (x,b4)->p<b4)(cJ:∀V (p:I),Cx bs lim p->Ar As 91 #[.agg<|Ct bs fm d l,C Y p,C Y<|dp+1] V (Jn k bs lim V<|rd p)):Ar As 134 #[.agg<|Ct bs fm d l,.agg<|Da (FJ m) n (q0:J) o,C Y dp] W<|Jn (k+1) bs lim W<|O3 m (El (DS fm) bs lim) rd x q0 [] []:=by
 obtain⟨ti,ct,cp,cq,cr⟩:=DL Tryz.infoThR;obtain⟨si,co,cm,cn,b0⟩:=DL Tryz.infoStrR;obtain⟨a3,q⟩:=CC<|O3 m (El (DS fm) bs lim) rd x q0 [] [];rw[AE q];have HL:=T hl;have HI:=T hi;have HN:=T hn;have b6:D (∀V (p:I),Cx bs lim p->Ar As 91 #[Ag #[Ae ⟨Aw bs⟩,C Y fm,C Y d,C Y l],C Y p,C Y<|dp+1] V (Jn k bs lim V<|rd p)):=cJ;have b8:=T br;have b5:=T bj;have be:=T bq;clear bq hl hi cJ br bj hn;unfold Ct Da;go_enter func134,ntmps134
 go_wp2_with(first
  |((with_reducible refine zT 9 22 rfl rfl (O (U W)+4) (Cg (FJ m) 0 ⟨#[]⟩ Cq Cq) ?_ ?_);exact⟨Z,Z,(fY W).d,thg⟩;refine FA ?_;intro V0 bc;have v:D<|EW W (Ct bs fm d l) (Da (FJ m) n (q0:J) o) (Cg (FJ m) 0 ⟨#[]⟩ Cq Cq) V0:=bc▸(fY W).ad _;clear bc;obtain⟨B,L,c2,N⟩:=Eb v.h;have d0:A6 V0 (O (U W)+1) 0<|C Y<|FJ m:=Cc v.c 0;have d1:A6 V0 (O (U W)+1) 1<|C Y n:=Cc v.c 1;have d2:A6 V0 (O (U W)+1) 2<|C Y (q0:J):=Cc v.c 2))
 go_loopg[10,11] (K bs+1-q0) (λg cv cw wr=>∃(p P:I) (kl:AJ A1) (Q:AJ<|AM Unit) (f:A4) (kn h:I) (ua:A4) (un uc:I),cv=C Y p/\cw=C Y P/\D (K bs+1<=p+g)/\D (Cx bs lim p)/\D (P<=p/\P<=x)/\D (K Q=P/\bif m then K kl=K Q else kl=[]/\AX f kn h=Cq)/\D (O3 m (El (DS fm) bs lim) rd (x-P) p kl Q=a3)/\D (EW W (Ct bs fm d l) (Da (FJ m) n (q0:J) o) (Cg (FJ m) 0 ⟨#[]⟩ (Ac f kn h)<|Ac ua un uc) wr)/\D (IS k wr (O (U W)+5) (Ac f kn h) (Ac ua un uc) kl Q))
 exact⟨q0,0,[],[],Ao,0,0,Ao,0,0,rfl,rfl,Bp,HI,⟨Ex _,Ex _⟩,⟨rfl,by cases m<;>simp[Cq]⟩,q,v,uX⟩;clear q v HI B L c2 N d0 d1 d2;obtain⟨p,P,kl,Q,f,kn,h,ua,un,uc,rfl,rfl,hg,HI,HK,z,q,v,ab⟩:=hrel;have cj:=HI.1;have c5:=HK.1;have cu:=v.size;obtain⟨B,L,c2,N⟩:=Eb v.h;have d0:A6 wr (O (U W)+1) 0<|C Y<|FJ m:=Cc v.c 0;have d1:A6 wr (O (U W)+1) 1<|C Y n:=Cc v.c 1;by_cases ch:P=x
 .have ci:¬(P:J)<n:=AY<|AE HN;have a:D<|a3=.ok (bif m then .map (FH kl Q)else .agg Q,p):=by show _=_;rw[<-AE q,ch,Rg];cases m<;>rfl
  clear q hg
  go_wp2_with(first
   |((with_reducible refine CO rfl 101 (.tmp 9) rfl (O (U W)+4) ?hx 101 (Cg (FJ m) 0 ⟨#[]⟩ (Ac f kn h)<|Ac ua un uc) (0,0) _ ?hg underlying101 rfl ?hi ?_);(case hx=>exact rfl);(case hg=>exact v.d);(case hi=>exact KI))
   |((with_reducible refine zT 6 111 rfl rfl (O (U W)+2) (Cg (FJ m) 0 ⟨#[]⟩ (Ac f kn h)<|Ac ua un uc) ?_ ?_);exact⟨Z,Z,v.b,thg⟩)
   |((with_reducible refine zF 8 113 rfl rfl (O (U W)+3) (0,0) ?_ ?_);exact⟨Z,Z,sx E v.a⟩))
  have hf:=v.ai (Cg (FJ m) 0 ⟨#[]⟩ (Ac f kn h)<|Ac ua un uc) (0,0);refine F4 results134 hf (C Y p) Z Z Z Z ⟨hf.2.2,?_⟩;rw[AE a];exact⟨HI,_,_,_,_,_,_,_,_,_,rfl,(ab.next Ba λj bu bv=>BP).ai z.2 E⟩
 have bw:P<x:=AY HK.2;have ci:(P:J)<n:=AY<|AE HN;cases m
 case' true =>
  dsimp only[FJ,cond]at *;have aj:D (∀ap,El (DS fm) bs lim kl.reverse p=.error ap->a3=.error ap):=λap hf=>by rw[<-AE q,show x-P=(x-P-1)+1 by omega];simp only[O3,cond,GK,hf];rfl
  go_wp2_with fail
  refine(fI (bs:=bs) d (l:=l) HL HI hb be).mono ?_;clear B L c2 N d0 d1;rintro e w6 ⟨⟨bi,hn,hq,ho,F,rfl,h1,h2⟩,ak⟩;simp only[]
  go_wp2_with(first
   |((with_reducible refine zH 12 (y:=38) rfl rfl (O<|U w6) bi hn hq ho ?_ ?_);exact⟨Z,Z,(Gu w6).1⟩)
   |((with_reducible refine zF 13 39 rfl rfl (O (U w6)+1) F ?_ ?_);exact⟨Z,Z,sx E (Gu w6).2⟩;refine fZ ?_;intro V7 a6 bt bp;have u:=T<|MS.mk (F:=F) (G:=Da bi hn hq ho) ((v.next ak).next a6) bp bt (ak.trans<|a6.out.mono ak.size) ak.size;clear a6 bt bp;have cg:O (U W)+5<=O (U w6):=CE cu ak.size;generalize O (U w6)=M at *;have hc:=u.cs))
  have cH:=λV=>NL bs fm d l V p;have cB:=OX bs fm d l;clear ak w6;rcases vm (kl:=kl) HL HI h1 h2 with⟨hh,av,A⟩|⟨c,am,hh,ae⟩
  case' inr=>have cT:=λV=>tQ V (fm:=fm) d l (c:=c) am be;rcases ae with⟨R,av,A⟩|⟨R,bk,A⟩|⟨R,rfl,x1,r1,az,rfl,aw,cl,A⟩
  all_goals rw[hh]at cH;clear hh
  case' inr.inr.inr =>
   rw[Fm R]at cT;have cR:=λV=>fW V fm d (i:=r1) (x:=x1) (n:=hn) az HL aw hb;dsimp only[Ct]at cR
   cases al:Ds bs lim x1 r1 [] 0 with
   |error F=>?_
   |ok y=>?_
   all_goals rw[al]at A cR
  case' inl=>have a:=T<|aj _ A;let b:I:=56
  case' inr.inl=>rw[Fm R]at cT;have a:=T<|aj _ A;clear R am;let b:I:=56
  case' inr.inr.inl =>
   rw[FO R]at cT;have cE:=λV=>cB V p 9;rw[bk]at cE;have a:=T<|aj _ A;clear bk R am A;generalize((9:J),(p:J))=EE at *
  case' inr.inr.inr.error =>
   have a:=T<|aj _ A;have av:(F.1==0)=AQ:=B2<|TI (bs:=bs) _ _ _ _ F.1 F.2 al;dsimp only[NV]at cR;clear al az R am aw;let b:I:=71
  case' inr.inr.inr.ok =>
   obtain⟨tt,r⟩:=y;obtain⟨ax,bx⟩:=XL _ _ _ _ _ _ aw al;obtain⟨F,ar⟩:∃F:J×J,F=(0,0):=⟨_,rfl⟩
   have av:(F.1==0)=AP:=by rw[ar];rfl
   dsimp only[NV]at cR;rw[<-ar]at cR;have bz:=ax.1;have cK:=λV (ae:IS k V (O (U W)+5) (Ac f kn h) (Ac ua un uc) kl Q)=>dg (W:=V) (ks:=kl) tt (P6 ae.q λ_ _ _=>trivial)<|AY<|AE z;rcases Classical.em (tt∈kl)with au|au
  case' inr.inr.inr.ok.inl =>
   simp only[au,if_true]at A cK;have a:=T<|aj _ A;have cE:∀V,Ar As 84 #[Ag #[Ae ⟨Aw bs⟩,C Y fm,C Y d,C Y l],C Y<|(r:J)-1,C Y 12] V λe W'=>e=Ak (.agg<|Cf (12,(r:J)-1))/\A0 V W':=λV=>by
    obtain⟨r0,rfl⟩:∃r0,r=r0+1:=⟨r-1,E⟩
    have ae:=cB V r0 12;rw[RP HL ax,show(r0:J)=((r0+1:I):J)-1 by omega]at ae;exact ae
   clear al az R am au ax aw bx ar A;generalize((12:J),(r:J)-1)=EE at *
  case' inr.inr.inr.ok.inr =>
   simp only[au,if_false]at A cK;have a0:=T ax;have bg:=T A;have b7:=T ar;clear al az R am au ax aw ar
  all_goals
   have cx:=True.intro;obtain⟨⟨B,L,c2,N⟩,g1,g2,u0⟩:=hc
   try clear A
   clear h1 h2 aj
   go_wp2_with(first
    |((first|go_at_call 116|go_at_call 168|go_at_call 133);refine ck (by first|exact cH _|exact cT _|exact cR _) u.next ?_;clear u B L c2 N g1 g2 u0;intro w8 u;obtain⟨⟨B,L,c2,N⟩,g1,g2,u0⟩:=u.cs)
    |(go_at_call 169;refine(cK _<|ab.next u.b.size λj _ w=>u.b.block j w).mono ?_;rintro e a4 ⟨rfl,rfl⟩)
    |(go_at_call 84;refine ck (cE _) u.a.next ?_;clear B L c2 N u0;intro ai aa)
    |((with_reducible refine zT _ _ rfl rfl (O (U W)+2) Cv ?_ ?_);exact⟨Z,Z,aa.b,thg⟩)
    |((with_reducible refine zF _ _ rfl rfl (O (U W)+3) EE ?_ ?_);exact⟨Z,Z,sx E aa.a⟩)
    |((with_reducible refine zF 13 67 rfl rfl (M+1) F ?_ ?_);exact⟨Z,Z,u.fl⟩;refine aI (u.st cg F) ?_;clear u B L c2 N g1 g2 u0;intro a4 u;obtain⟨⟨B,L,c2,N⟩,g1,g2,u0⟩:=u.cs;have k3:A6 a4 (O (U W)+1+1+1+1) 3<|Ac f kn h:=Cc u.a.d 3)
    |(at_builtin;(refine JH rfl (t:=98) rfl (e:=9) (i:=si) (bytes:=16) underlying98 co cm cn b0 rfl B8 rfl ((ab.next u.b.size λj _ w=>u.b.block j w).q.alloc _) (ad:=⟨O<|U a4,0,Ao⟩) 1 1 (news:=[Ae ⟨Aw tt⟩]) rfl rfl (EU) (fP) B8 (B4<|AE z) (AY<|AE z) (B0 u.a.size) ?_);intro v' ai ba a7 b2;obtain⟨g1,ay,rfl⟩:=ownsRow_succ ba;have HM:=ab.next u.b.size λj _ w=>u.b.block j w;have aa:=T<|u.a.a2 (λg e=>DK HM.q e) a7;have bh:=T<|HM.key ba a7 b2;clear ba a7 b2 B L c2 N k3 u0;have k3:A6 ai (O (U W)+1+1+1+1) 3<|Ac f kn h:=Cc aa.d 3;have f3:ai.frozen? ⟨O (U W)+1+1+1+1,3,Ao⟩=AQ:=Dy ai (O (U W)+4) 3 _ _ aa.d;obtain⟨B,L,c2,N⟩:=Eb aa.h))
  all_goals try
   refine Dl (S:=λag=>A7 ag (M+1) (Cf F) 103) u.fl B6 λhS=>Ch 1 (b+1) (.agg<|Cf F) Z (λag hZ=>yF 13 hZ Z Z) hS <| Ch 0 b (.agg Cv) Z (λag hZ=>C0) hS ?_;have ah:=(Do _ (O (U W)+2) (M+1) Cv E).trans hS;refine Ij 2 6 b (g:=(O (U W)+2)) B6 u.a.b thg ah <| Cb 3 7 (C Y 0) ah <| sF 4 8 (b+1) (g:=(O (U W)+3)) (F:=F) B6 (sx E u.a.a) (sx E ah) <| CK ?_;dsimp only[b];go_simp;go_wp2;refine F4 results134 (u.a.drew.ai Cv _) (C Y 0) Z Z Z Z ⟨(u.a.drew.ai Cv _).2.2,?_⟩;rw[AE a];exact⟨_,_,_,_,_,_,_,_,_,_,Z⟩
  all_goals try
   have hf:=aa.ai Cv EE;refine F4 results134 hf (C Y 0) Z Z Z Z ⟨hf.2.2,?_⟩;rw[AE a];exact⟨_,_,_,_,_,_,_,_,_,_,Z⟩
  have v:=T (aa.cell<|Ac (Aa g1) (K kl+1) ay).1;have ab:D<|IS k (AB ai ⟨O (U W)+1+1+1+1,3,Ao⟩<|Ac (Aa g1) (K kl+1) ay) (O (U W)+5) (Ac (Aa g1) (K kl+1) ay) (Ac ua un uc) (kl++[tt]) Q:=bh.next Bd λj bu bv=>CY ai _ _ _ B7
  generalize AB ai ⟨O (U W)+1+1+1+1,3,Ao⟩ (Ac (Aa g1) (K kl+1) ay)=V14 at *;have an:D (K Q=P/\∀dd,K (kl++[tt])=K (Q++[dd])):=⟨z.1,λdd=>B0 z.2⟩
  have ao:=T<|gq (m:=AP) q bw ⟨z.2,tt,bg,Z⟩
 case' false =>
  dsimp only[FJ,cond]at *
  go_wp2_with fail
  have an:=T (OL z.1 λdd:A2=>z.2);have ao:=T<|gq (ks:=kl) q bw Z;have a0:=HI;have bz:=cj;obtain⟨r,hr⟩:=DF p;rw[hr]at ao a0 bz ⊢;have bx:p<=r:=E
 all_goals
  try clear b7 bg
  try clear aa bh u k3 f3
  try clear d0 d1
  clear z q B L c2 N;refine(b6 _ r a0).mono ?_;rintro e w2 a5;obtain⟨kk,nn,s,a1,i1,j1,b1,q1,m1,c8,F,rfl,bn,bo⟩:=vo a5;have aq:=a5.1;have cf:=T<|v.next aq;have bf:=T<|ab.next aq.size λj _ w=>aq.block j w;have ce:=T<|Exists.elim ab.c λxs ae g e=>En ae.1 (g:=g) e;have ca:=T λg e=>En ab.q (g:=g) e;have c7:=v.size;have b0:=aq.size;clear a5 aq;simp only[];cases hr:rd r
  case' error ap =>
   obtain rfl:=bn ap hr;have a:=T<|ao.1 _ hr;have av:(F.1==0)=AQ:=B2<|b5.out r F.1 F.2 hr
  case' ok y =>
   obtain⟨dd,pq⟩:=y;obtain⟨hF,rfl,bb,hA⟩:=bo _ _ hr;have av:(F.1==0)=AP:=kfH;have cb:=T bb;have HA:=T hA;have cl:=b8.out r dd pq hr;have c6:=bb.1;have cc:=T<|ao.2 _ _ hr;clear bb hA hF
  all_goals
   clear hr bn bo ao
   go_wp2_with(first
    |((with_reducible refine zT 17 96 rfl rfl (O<|U w2) (Cg kk nn s (Ac a1 i1 j1)<|Ac b1 q1 m1) ?_ ?_);exact⟨Z,Z,(Gu w2).1,thg⟩)
    |((with_reducible refine zF 19 98 rfl rfl (O (U w2)+1) F ?_ ?_);exact⟨Z,Z,sx E (Gu w2).2⟩;refine fZ ?_;intro V5 af cd bd;have ac:=T<|cf.next af;obtain⟨B,L,c2,N⟩:=Eb ac.h;have u0:A6 V5 (O (U w2)+1) 0<|C Y F.1:=Cc bd 0;have k4:A6 V5 (O (U W)+1+1+1+1) 4<|Ac ua un uc:=Cc ac.d 4)
    |((with_reducible refine CO rfl 101 (.tmp 17) rfl (O<|U w2) ?hx 101 #[C Y kk,C Y nn,.string s,Ac a1 i1 j1,Ac b1 q1 m1] (0,0) _ ?hg underlying101 rfl ?hi ?_);(case hx=>exact rfl);(case hg=>exact cd);(case hi=>exact KI))
    |(at_builtin;(obtain⟨xs,ho,bm⟩:=(bf.next af.size λj _ w=>af.block j w).c;refine JH Z Z underlying99 ct cp cq cr Z B8 Z (ho.alloc _) 1 1 Z Z (EU) (U1) B8 (B4 an.1) (AY an.1) (B0 ac.size) ?_);intro v' w5 a9 a8 b3;obtain⟨g5,cy,rfl⟩:=ownsRow_succ a9;have a2:=T<|ac.a2 (λg e=>DK ho e) a8;have b9:=T<|(bf.next af.size λj _ w=>af.block j w).kid ho bm (HA.same (λj w=>⟨w.1,CQ w.2 af.size⟩) λj w=>af.block j w.2) ce ca E rfl a9 a8 b3;clear ho bm a9 a8 b3 B L c2 N k4 u0;have k4:A6 w5 (O (U W)+1+1+1+1) 4<|Ac ua un uc:=Cc a2.d 4;have f4:w5.frozen? ⟨O (U W)+1+1+1+1,4,Ao⟩=AQ:=Dy w5 (O (U W)+4) 4 _ _ a2.d))
  rotate_left
  next =>
   refine Dl (S:=λag=>A7 ag (O (U w2)+1) (Cf F) 103) bd B6 λhS=>Ch 1 103 (.agg<|Cf F) Z (λag hZ=>yF 19 hZ Z Z) hS <| Ch 0 102 (.agg Cv) Z (λag hZ=>C0) hS ?_;have ah:=(Do _ (O (U W)+2) (O (U w2)+1) Cv E).trans hS;refine Ij 2 6 102 B6 ac.b thg ah <| Cb 3 7 (C Y 0) ah <| sF 4 8 103 (g:=(O (U W)+3)) (F:=F) B6 (sx E ac.a) (sx E ah) <| CK ?_;go_simp;go_wp2;refine F4 results134 (ac.drew.ai Cv _) (C Y 0) Z Z Z Z ⟨(ac.drew.ai Cv _).2.2,?_⟩;rw[AE a];exact⟨_,_,_,_,_,_,_,_,_,_,Z⟩
  go_roundg (gk-(pq-p));exact⟨pq,P+1,_,Q++[dd],_,_,_,_,_,_,rfl,Bb,by grind [D],cb,⟨E,E⟩,⟨B0 an.1,an.2 dd⟩,cc,(a2.cell _).2,b9.next Bd λj bu bv=>CY w5 _ _ _ B7⟩;have:=AE hg;omega
def Qt(k:AH)(bs:A1)(lim:AI)(W:Ap)(r:AS (AI×AI)<|AM Unit×AH)(T:A3)(z:AI)(F:AI×AI):Prop :=
 ∀W',A0 W W'->Jn k bs lim W r (Ak<|Af #[.agg T,Ab Al z,.agg<|Cf F]) W'
def U4{n:J}{z:J}(f:J×J):Qt k bs lim W (.error f) (Cg kd n s Cq Cq) z f :=
 λ_ h=>⟨h,_,_,_,_,_,_,_,_,_,_,rfl⟩
def gw(k:AH)(W:Ap)(bs:A1)(fm d l lim dp:AI)(R:AS (AI×AI)<|AM Unit×AH)(a n q:AI)(o:AK):Prop :=
 (a=3/\o=AP/\1<=q/\q<=200000001/\∃f,(∀V,Ar As 84 #[.agg<|Ct bs fm d l,Ab Al<|q-1,Ab Al 10] V λe W'=>e=Ak (.agg<|Cf f)/\A0 V W')/\Qt k bs lim W R Cv 0 f)
  \/ (a=3/\o=AQ/\Qt k bs lim W R (Cg 3 n ⟨#[]⟩ Cq Cq) q (0,0))
  \/ (∃tx,((a==4)=tx/\(tx=AQ->a=5))/\∃lx r f,(∀V,Ar As 133 #[.agg<|Ct bs fm d l,Ab Al q,Ab Al n,Ah tx] V λe W'=>e=Ak (Af #[.string lx,Ab Al r,.agg<|Cf f])/\A0 V W')/\Qt k bs lim W R (Cg a 0 lx Cq Cq) r f)
  \/ ((a=6\/a=7)/\∀V,Ar As 134 #[.agg<|Ct bs fm d l,.agg<|Da a n q o,Ab Al dp] V<|Jn k bs lim V R)
  \/ ((0<=a/\a<=2)/\Qt k bs lim W R (Cg a 0 ⟨#[]⟩ Cq Cq) q (0,0))
def XO(k:AH)(W:Ap)(bs:A1)(fm d l lim dp:AI)(R:AS (AI×AI)<|AM Unit×AH)(a n q:AI)(o:AK)(F:AI×AI):Prop :=
 ((F.1==0)=AQ/\Qt k bs lim W R Cv 0 F)\/(F=(0,0)/\gw k W bs fm d l lim dp R a n q o)
def RX(bs:A1)(fm d l dp:AI)(i:AH):Prop :=
 CN bs l i=AQ\/(CN bs l i=AP/\∃ic:AK,(∀V,Ar As 131 #[.agg<|Ct bs fm d l,Ab Al i] V λe W'=>e=Ak (Ah ic)/\A0 V W')/\(ic=AP->dp<d))
theorem vp(k:I)(W:X)(bs:A1)(fm d l lim:J)(i:I)(dp:J)(s:CN bs l i=AP)(r:∀V,Ar As 131 #[.agg<|Ct bs fm d l,C Y i] V λe o=>e=Ak (Ah AP)/\A0 V o)(u:d<=dp)(t:D5 bs l i 11=(11,(i:J))):Ar As 91 #[.agg<|Ct bs fm d l,C Y i,C Y dp] W<|Jn (k+1) bs lim W<|.error (11,(i:J)):=by
 have q:=GJ fm d s;have g:=r;unfold Ct at g;have v:AR (d<=dp)=AP:=by simpa using u
 have p:=NK fm d t;have j:=Ln W bs fm d l;unfold Ct;go_enter func91,ntmps91
 go_wp2_with(first
  |(go_at_call 116;refine j.ck (q _) ?_;intro w m b c c2 f)
  |(go_at_call 131;refine m.ck (g _) ?_;intro x n b c c2 f)
  |(go_at_call 84;refine n.ck (p _) ?_;intro y a b c c2 f)
  |((with_reducible refine zT 6 28 rfl rfl (O (U W)+1) (Cv) ?_ ?_);exact⟨Z,Z,a.b,thg⟩)
  |((with_reducible refine zF 8 31 rfl rfl (O (U W)+2) (11,(i:J)) ?_ ?_);exact⟨Z,Z,Gm a CT⟩))
 have h:=EO a CT (Cv) (11,(i:J));exact F4 results91 h (C Y 0) Z Z Z Z ⟨h.2.2,_,_,_,_,_,_,_,_,_,_,Z⟩
theorem vq(k:I)(W:X)(lim:J)(R:AS (J×J)<|AM Unit×I)(hp:RX bs fm d l dp i)(cD:∀V,Ar As 132 #[.agg<|Ct bs fm d l,C Y i] V λe W'=>(∃a n q o F,e=Ak (Af #[.agg<|Da a n q o,.agg<|Cf F])/\XO (k+1) W bs fm d l lim dp R a n q o F)/\A0 V W'):Ar As 91 #[.agg<|Ct bs fm d l,C Y i,C Y dp] W<|Jn (k+1) bs lim W R:=by
 have HX:=Ln W bs fm d l;have z:CN bs l i=AQ\/(CN bs l i=AP/\∃r:AK,(∀V,Ar As 131 #[.agg<|Ct bs fm d l,C Y i] V λe W'=>e=Ak (Ah r)/\A0 V W')/\(r=AP->AR (d<=dp)=AQ)):=hp.imp id λ⟨aa,r,aw,h2⟩=>⟨aa,r,aw,λe=>FO<|AY<|h2 e⟩
 have ai:D (∀V,Ar As 132 #[Ag #[Ae ⟨Aw bs⟩,C Y fm,C Y d,C Y l],C Y i] V λe W'=>(∃a n q o F,e=Ak (Af #[.agg<|Da a n q o,.agg<|Cf F])/\XO (k+1) W bs fm d l lim dp R a n q o F)/\A0 V W'):=cD;clear hp cD;rcases z with aa|⟨aa,r,cI,aq⟩
 rotate_left
 cases r
 rotate_left
 replace aq:=aq rfl
 all_goals
  have ao:=GJ fm d aa;unfold Ct at *;clear aa;go_enter func91,ntmps91
  go_upto_region 4 with(first
   |(go_at_call 116;refine HX.ck (ao _) ?_;clear ao;intro w2 am B L c2 N;have ae:=am)
   |(go_at_call 131;refine am.ck (cI _) ?_;clear cI B L c2 N ae;intro w3 ae B L c2 N)
   |(go_at_call 132;refine(ai _).mono ?_;clear ai B L c2 N;rintro e w6 ⟨⟨a,n,q,o,F,rfl,z⟩,ap⟩;have an:=C9<|ae.next ap;have A:=C9 z;clear z ap)
   |((with_reducible refine zH 9 (y:=36) rfl rfl (O<|U w6) a n q o ?_ ?_);exact⟨Z,Z,(Gu w6).1⟩)
   |((with_reducible refine zF 10 37 rfl rfl (O (U w6)+1) F ?_ ?_);exact⟨Z,Z,sx E (Gu w6).2⟩;refine FA ?_;intro V7 ab;have u:=C9<|ab▸an.next (Lw);have aj:=C9<|ab▸MR;have P:=C9<|ab▸RV;have hM:O (U W)+3<=O (U w6):=Cd an.a;clear ab;generalize O (U w6)=M at *;obtain⟨B,L,c2,N⟩:=Eb u.h;obtain⟨g0,g1,g2,g3⟩:=tW P;have u0:A6 V7 (M+1) 0<|C Y F.1:=Cc aj 0))
  rcases AE A with⟨a2,v⟩|⟨rfl,z⟩
  .have w:=C9 v;clear A v
   go_wp2_with fail
   refine Dl (S:=λj=>A7 j (M+1) (Cf F) 103) (aj) B6 λb=>Ch 1 42 (.agg<|Cf F) Z (λj m=>yF 10 m Z Z) b <| Ch 0 41 (.agg Cv) Z (λj m=>C0) b ?_;have t:=sx (cs:=Cv) (show M+1≠O (U W)+1 by omega) b;refine Ij 2 6 41 (g:=(O (U W)+1)) (T:=(Cv)) B6 (u.drew.b) thg (t) <| Cb 3 7 (C Y 0) t <| sF 4 8 42 (g:=(O (U W)+2)) (F:=(F)) B6 (Gm u.drew CT) (sx E t) <| CK ?_;go_simp;go_wp2;have p:=EO u.drew CT (Cv)<|F;exact F4 results91 p (C Y 0) Z Z Z Z (w _ p.2.2)
  replace u0:A6 V7 (M+1) 0<|C Y 0:=u0
  rcases z with⟨rfl,rfl,a3,a4,f,cB,v⟩|⟨rfl,rfl,v⟩|⟨tx,⟨a5,h5⟩,h,ah,f,c,v⟩|⟨ha,Q⟩|⟨⟨ha,hb⟩,v⟩
  .have w:=C9 v;unfold Ct at cB;clear A v
   go_wp2_with(first
    |(go_at_call 84;refine ck (cB _) u.next ?_;clear cB B L c2 N g0 g1 g2 g3 u0;intro w8 x)
    |((with_reducible refine zT 6 49 rfl rfl (O (U W)+1) (Cv) ?_ ?_);exact⟨Z,Z,x.b,thg⟩)
    |((with_reducible refine zF 8 54 rfl rfl (O (U W)+2) f ?_ ?_);exact⟨Z,Z,Gm x CT⟩))
   have p:=EO x CT (Cv) f;exact F4 results91 p (C Y 0) Z Z Z Z<|w _ p.2.2
  .have w:=C9 v;clear A v
   go_wp2_with fail
   refine Dl (S:=λj=>A7 j M (Da 3 n q AQ) 237) (P) B6 λb=>Cb 0 55 (A9 M 1) b <| Ch 1 56 (C Y n) Z (λj m=>by have hz:A6 j M 1<|C Y n:=Cc m 1;go_simp) b ?_;refine Ch 2 57 (.agg<|Cg 3 n ⟨#[]⟩ Cq Cq) Z (λj m=>ke3) b <| Cb 3 58 (A9 M 2) b <| Ch 4 59 (C Y q) Z (λj m=>by have hz:A6 j M 2<|C Y q:=Cc m 2;go_simp) b ?_;refine Ch 5 60 (.agg<|Cf (0,0)) Z (λj m=>by unfold Cf;go_simp) b ?_;have t:=sx (cs:=Cg 3 n ⟨#[]⟩ Cq Cq) (show M≠O (U W)+1 by omega) b;refine Ij 6 6 57 (g:=(O (U W)+1)) (T:=(Cg 3 n ⟨#[]⟩ Cq Cq)) B6 (u.drew.b) thg (t) <| Cb 7 7 (C Y q) t <| sF 8 8 60 (g:=(O (U W)+2)) (F:=(0,0)) B6 (Gm u.drew CT) (sx E t) <| CK ?_;go_simp;go_wp2;have p:=EO u.drew CT (Cg 3 n ⟨#[]⟩ Cq Cq) (0,0);exact F4 results91 p (C Y q) Z Z Z Z<|w _ p.2.2
  .have w:=C9 v;have t3:(a==3)=AQ:=by cases tx<;>grind
   have t5:tx=AP\/(tx=AQ/\(a==5)=AP):=B9;have HR:=C9 c;clear A v h5 c;rcases t5 with rfl|⟨rfl,t5⟩
   all_goals
    have c:=AE HR;unfold Ct at c
    go_wp2_with(first
     |(go_at_call 133;refine MJ (c _) u.next ?_;clear c B L c2 N g0 g1 g2 g3 u0;intro w8 ad x;have ak:=C9<|(ad.block _<|Cd P).trans P;have ax:=Cd ak)
     |((with_reducible refine zF 13 76 rfl rfl (O<|U w8) f ?_ ?_);exact⟨Z,Z,Cj w8⟩;refine FA ?_;intro V9 ac;have af:=C9<|ac▸x.next (KP);have au:=C9<|ac▸CR _ _ _ _ _ _ (Cj _);have av:=C9<|ac▸((KP (V:=w8)).block _ ax).trans ak;clear ac;generalize O (U w8)=M2 at *))
    refine Dl (S:=λj=>A7 j M (Da a n q o) 237/\A7 j M2 (Cf f) 103) (⟨av,au⟩) B6 λb=>Ch 5 82 (.agg<|Cf f) Z (λj m=>yF 13 m.2 Z Z) b <| Cb 0 77 (A8 M) b <| Ch 1 78 (C Y a) Z (λj m=>by have hz:A6 j M 0<|C Y a:=Cc m.1 0;go_simp) b ?_;refine Cb 2 79 (.string h) b <| Ch 3 80 (.agg<|Cg a 0 h Cq Cq) Z (λj m=>ke3) b <| Cb 4 81 (C Y ah) b ?_;have t:=OL (sx (cs:=Cg a 0 h Cq Cq) (show M≠O (U W)+1 by omega) b.1) (sx (cs:=Cg a 0 h Cq Cq) (show M2≠O (U W)+1 by omega) b.2);refine Ij 6 6 80 (g:=(O (U W)+1)) (T:=(Cg a 0 h Cq Cq)) B6 (af.drew.b) thg (t) <| Cb 7 7 (C Y ah) t <| sF 8 8 82 (g:=(O (U W)+2)) (F:=f) B6 (Gm af.drew CT) (⟨sx E t.1,sx E t.2⟩) <| CK ?_;go_simp;go_wp2;have p:=EO af.drew CT (Cg a 0 h Cq Cq) f;exact F4 results91 p (C Y ah) Z Z Z Z<|w _ p.2.2
  .have ar:=C9 Q;clear A Q;rcases ha with rfl|rfl
   all_goals
    have Q:=AE ar;unfold Ct at Q
    go_wp2_with(first
     |((with_reducible refine CO rfl 237 (.tmp 9) rfl (M) ?hx 237 (Da _ n q o) (0,0) _ ?hg underlying237 rfl ?hi ?_);(case hx=>exact rfl);(case hg=>exact P);(case hi=>exact TV)))
    refine(Q _).mono ?_;clear Q B L c2 N g0 g1 g2 g3 u0;rintro e w8 ag;have az:=Cd u.a;obtain⟨ad,r',kk,nn,s,a1,i1,j1,b1,p1,m1,a0,F,ay,rfl,hA,hF⟩:=MN<|XM ag;have x:=C9<|u.next ad;have al:=C9 ag.2;clear ag ay hA hF ad;simp only[]
    go_wp2_with(first
     |((with_reducible refine zT 6 90 rfl rfl (O (U W)+1) (Cg kk nn s (G a1 i1 j1)<|G b1 p1 m1) ?_ ?_);exact⟨Z,Z,x.b,thg⟩)
     |((with_reducible refine zF 8 92 rfl rfl (O (U W)+2) F ?_ ?_);exact⟨Z,Z,Gm x CT⟩))
    have p:=EO x CT (Cg kk nn s (G a1 i1 j1)<|G b1 p1 m1) F;refine F4 results91 p (C Y a0) Z Z Z Z ⟨p.2.2,?_⟩;obtain f|y:=R
    .exact al
    obtain⟨h1,kd,n',s',a',i',j',b',p',m',h2,h3⟩:=AE al;exact⟨h1,kd,n',s',a',i',j',b',p',m',h2,eR h3 u.ac.size az⟩
  have w:=C9 v;have t3:(a==3)=AQ:=B7;have t4:(a==4)=AQ:=B7;have t5:(a==5)=AQ:=B7;have t6:(a==6)=AQ:=B7;have t7:(a==7)=AQ:=B7;clear A v
  go_wp2_with fail
  refine Dl (S:=λj=>A7 j M (Da a n q o) 237) (P) B6 λb=>Cb 0 93 (A8 M) b <| Ch 1 94 (C Y a) Z (λj m=>by have hz:A6 j M 0<|C Y a:=Cc m 0;go_simp) b ?_;refine Ch 2 95 (.agg<|Cg a 0 ⟨#[]⟩ Cq Cq) Z (λj m=>ke3) b <| Cb 3 96 (A9 M 2) b <| Ch 4 97 (C Y q) Z (λj m=>by have hz:A6 j M 2<|C Y q:=Cc m 2;go_simp) b ?_;refine Ch 5 98 (.agg<|Cf (0,0)) Z (λj m=>by unfold Cf;go_simp) b ?_;have t:=sx (cs:=Cg a 0 ⟨#[]⟩ Cq Cq) (show M≠O (U W)+1 by omega) b;refine Ij 6 6 95 (g:=(O (U W)+1)) (T:=(Cg a 0 ⟨#[]⟩ Cq Cq)) B6 (u.drew.b) thg (t) <| Cb 7 7 (C Y q) t <| sF 8 8 98 (g:=(O (U W)+2)) (F:=(0,0)) B6 (Gm u.drew CT) (sx E t) <| CK ?_;go_simp;go_wp2;have p:=EO u.drew CT (Cg a 0 ⟨#[]⟩ Cq Cq) (0,0);exact F4 results91 p (C Y q) Z Z Z Z<|w _ p.2.2
theorem gx(k:I)(W:X)(bs:A1)(fm d l lim:J)(i:I)(dp:J)(c:AU)(f:bs[i]?=H c)(m:¬(i:J)=lim)(hl:Lm bs l lim)(hi:Cx bs lim i)(g:d<=dp):Ar As 129 #[.agg<|Ct bs fm d l,C Y i,C Y dp] W<|Fc k bs lim W<|.error (11,(i:J)):=by
 have s:AR (d<=dp)=AP:=by simpa using g
 have b:∀V,Ar _ 84 #[.agg _,.int _ i,.int _ 11] V λe o=>e=Ak (.agg<|Cf _)/\Below _ V o:=λV=>by have h:=M3 V bs fm d l i 11;rw[Ie hl hi f m]at h;exact h
 have n:=Ln W bs fm d l;clear f m hl hi g;unfold Ct;go_enter func129,ntmps129
 go_wp2_with(first
  |(go_at_call 84;apply Ec (b _) n.next λ_ h=>h.h;clear b;intro t a p q c2 r)
  |((with_reducible refine zT 6 17 rfl rfl (O (U W)+1) (Cv) ?_ ?_);exact⟨Z,Z,a.b,thg⟩)
  |((with_reducible refine zF 8 20 rfl rfl (O (U W)+2) (11,(i:J)) ?_ ?_);exact⟨Z,Z,Gm a CT⟩))
 have j:=EO a CT (Cv) (11,i);refine F4 results129 j (.int _ 0) Z Z Z Z ⟨j.2.2,?_⟩;exact⟨_,AF Z,_,_,_,_,_,_,_,_,_,_,Z⟩
def vr(s:Cw)(c:AU)(p:I):DI<|Ii s c p:=dU
theorem vt{c:AU}(a:bs[p]?=H c)(h:Ey c=AQ):GH bs l p=AQ:=by grind [GH]
def vu{c:AU}(h:Ey c=AP):48<=(c.toNat:J)/\(c.toNat:J)<=57:=Dr h
def vv{c:AU}(h:¬Ey c=AP):(c.toNat:J)<48\/57<(c.toNat:J):=by have b:¬(48<=(c.toNat:J)/\(c.toNat:J)<=57):=λa=>h<|Fm a;omega
theorem vw(W:X)(fm d:J){c:AU}(b:bs[i]?=H c)(u:c.toNat=45\/Ey c=AP)(j:¬(i:J)=lim)(hl:Lm bs l lim)(hi:Cx bs lim i)(hb:K bs<=281474976710656){s:Cw}(r:s.e=bs)(t:s.d=lim):Ar As 130 #[.agg<|Ct bs fm d l,C Y i] W λe f=>JQ bs lim (Ii s c<|i+1) e/\A0 W f:=by
 subst r;subst t;unfold Ii GW;simp only[];have p:=Eu hi b j;by_cases a:c.toNat=45
 .rw[Cp a];have v:∀x,GH _ l _=AQ->D5 _ l _ 9=x->Ar _ _ #[.agg<|Ct _ fm d l,.int _ i] W λe f=>JQ s.e s.d _ e/\Below _ W f:=λx n o=>Ce (tw b a hb n o) λe f h=>⟨⟨_,AF Z,(λz q e=>keC),h.1⟩,h.2⟩
  rcases hc1:s.e[i+1]? with _|m
  .grind [TP,Id,IN]
  simp only[];by_cases k:((i+1:I):J)=s.d
  .grind [TP,Hs,Gl]
  rw[Cl k];by_cases g:Ey m=AP
  .rw[Cp g];have h:=eQ W fm d b (AF ⟨Z,a,Z,Z⟩) hc1 g k hl p hb;grind [JP]
  grind [vt,Ie]
 rw[Cl a];have g:=u.resolve_left a;have h:=eQ W fm d b (AG ⟨Z,a,Z,Z⟩) b g j hl hi hb;grind [JP]
theorem gy{nm:AU->I->A5 J}{wi:I}(a:(p:J)=lim)(hl:p<K bs):Fw bs lim depth nm (g+1) wi p=.error (8,(p:J)):=by grind [Fw]
theorem XP{s:Cw}(fm:J)(hl:Lm s.e l s.d)(hb:K s.e<=281474976710656)(z:s.d<=200000000)(N:s.b<=100000):∀(g a:I) (W:X) (i:I),(a:J)<=s.b->s.b<a+g->Cx s.e s.d i ->
  Ar As 90 #[.agg<|Ct s.e fm s.b l,C Y i,C Y a] W (Fc g s.e s.d W<|Fw s.e s.d s.b (Ii s) g a i)
 |0,a,W,i,d,j,_=>absurd j E
 |g+1,a,W,i,d,j,hi=>by
  have ac:∀p,a+1<=s.b->DI _:=λp h=>Xh (bs:=s.e) (lim:=s.d) (depth:=s.b) (λc p=>vr s c p) g (a+1) p E E;have ad:a<s.b->∀p:I,p=s.d->p<K s.e->Fw _ _ s.b (Ii s) g (a+1) p=.error (8,p):=λh p n o=>by
   obtain⟨g',rfl⟩:∃g',g=g'+1:=⟨g-1,E⟩
   exact gy n o
  rw[Fw];rcases hc:s.e[i]? with _|c
  .exact Xx fm _ a (IN hi.1 hc 9) (RT)<|AF<|Id hc
  simp only[];by_cases b:(i:J)=s.d
  .rw[Cp b];exact Xx fm _ a (Gl hl hc b 9) (RT)<|AF<|Hs hl hc b
  rw[Cl b];have k:=J5 hl hi hc b;have f:∀(w:AU) (v:A1) (kd:J) (dd:A2),c=w->(w.toNat,Aw (w::v),kd)∈([(110,#[110,117,108,108],0),(102,#[102,97,108,115,101],1),(116,#[116,114,117,101],2)])->(∀W':X,CV 1 W' _ _ dd)->K (w::v)<=10->Ar _ 90 #[.agg _,.int _ i,.int _ a] W (Fc (g+1) _ _ W (match Dt _ _ v _ with
    |.error aa=>.error aa
    |.ok (_,q)=>.ok _)):=λw v kd dd d j n o=>by
   have y:=λV=>WU V fm s.b _ (CE o B8) hl hi hb;rw[tC hc b d]at y;rcases hr:Dt s.e s.d v (i+1)with ab|r
   .rw[hr]at y;exact eU hc k (by rw[d]) j y<|RT
   obtain⟨ah,q⟩:=r;rw[hr]at y;exact eU hc k (by rw[d]) j y<|eT (RO v _ q (Eu hi hc b) hr).2 n
  unfold Kg;by_cases R:c.toNat=110
  .rw[Cp R];exact f 110 _ 0 _ (by apply PO.1;rw[R];rfl) B8 (λ_=>rfl) B8
  rw[Cl R];by_cases S:c.toNat=116
  .rw[Cp S];exact f 116 _ 2 _ (by apply PO.1;rw[S];rfl) B8 (λ_=>rfl) B8
  rw[Cl S];by_cases Q:c.toNat=102
  .rw[Cp Q];exact f 102 _ 1 _ (by apply PO.1;rw[Q];rfl) B8 (λ_=>rfl) B8
  rw[Cl Q];by_cases F:c.toNat=34
  .rw[Cp F];have A:=λV=>eN V fm s.b hl (Eu hi hc b) hb z;rcases hr:DA s.e s.d (K s.e+1-(i+1)) (i+1) [] 0 with ab|r
   .rw[hr]at A;exact eV hc k F A<|RT
   obtain⟨x,q⟩:=r;rw[hr]at A;exact eV hc k F A<|eT (TQ _ _ [] 0 x q (Eu hi hc b) hr) λ_=>rfl
  rw[Cl F];have ei:(i+1:I)-1=(i:J):=E;by_cases L:c.toNat=91
  .rw[Cp L];refine Xy hc k<|AF ⟨AF L,λV=>?_⟩;by_cases u:(a:J)=s.b
   .grind [gx]
   rw[Cl u];exact gp (m:=AQ) g V a hc L b hl hi hb z E E N (λp=>ac p E) (ad E) (λp x q h=>RI s _ _ _ _ _ h) λP p e=>XP fm hl hb z N g (a+1) P p E E e
  rw[Cl L];by_cases B:c.toNat=123
  .rw[Cp B];refine Xy hc k<|AF ⟨AG B,λV=>?_⟩;by_cases u:(a:J)=s.b
   .grind [gx]
   rw[Cl u];exact gp (m:=AP) g V a hc B b hl hi hb z E E N (λp=>ac p E) (ad E) (λp x q h=>RI s _ _ _ _ _ h) λP p e=>XP fm hl hb z N g (a+1) P p E E e
  rw[Cl B];by_cases t:c.toNat=45\/Ey c=AP
  .rw[Cp t];have hN:=λV=>vw V fm s.b hc t b hl hi hb Z Z;refine Xy hc k<|AG ⟨t.imp id λh=>AY<|vu h,λV=>Ce (hN V) λaa W' h=>?_⟩;obtain⟨⟨r',d,j,n⟩,o⟩:=h;obtain ab|x:=r'
   .exact⟨o,_,tD d,_,_,_,_,_,_,_,_,_,_,n⟩
   exact⟨o,_,tE d,(j _ _ Z).1,_,_,_,_,_,_,_,_,_,n,NW ⟨Z,(j _ _ Z).2⟩⟩
  rw[Cl t,ei];have ag:¬c.toNat=45:=λh=>t<|AF h;have af:¬Ey c=AP:=λh=>t<|AG h;have ae:=Ie hl hi hc b 9;exact Xx fm _ a ae (RT) (AG ⟨k,c,hc,λx hx=>by simp at hx;omega,AY<|vv af⟩)
def vx(a:fm=2\/fm=3)(c:AU):(DS fm c.toNat).1<=10:=by
 rcases a with rfl|rfl
 .exact(X9 c.toNat c.toNat_lt).1
 exact(Xa c.toNat c.toNat_lt).1
theorem U5{so w:I}(a:¬so=5)(b:¬so=6):nR so w x=min (x:J) 9223372036854775807:=by grind [nR]
def U6{x:J}:-9223372036854775808<=wrap64 x/\wrap64 x<=9223372036854775807:=by unfold wrap64;omega
def vy(x:I)(w:J):-9223372036854775808<=GG x w/\GG x w<=9223372036854775807:=by
 unfold GG;split
 .exact U6
 split
 .exact U6
 split
 .exact U6
 exact U6
theorem gz(fm:J)(aa:fm=2\/fm=3)(hl:Lm bs l lim)(hb:K bs<=200000000)(au:depth<=100000):∀(g s:I) (W:X) (i:I),(s:J)<=depth->depth<s+g->Cx bs lim i ->
  Ar As 91 #[.agg<|Ct bs fm depth l,C Y i,C Y s] W (Jn g bs lim W<|DR (DS fm) bs lim depth g s i):=by
 intro g
 induction g with
 |zero=>omega
 |succ g ih =>
  intro s W i P Q hi;have go:∀R,RX bs fm depth l s i->(∀a n q o F,(∀b w x p,Eo fm bs lim i=.ok (b,w,x,p)->a=J7 b/\n=nR b w x/\q=(p:J)/\o=In b x/\F=(0,0))->(∀f,Eo fm bs lim i=.error f->F=f)->XO (g+1) W bs fm depth l lim s R a n q o F)->Ar As 91 #[.agg<|Ct bs fm depth l,C Y i,C Y s] W (Jn (g+1) bs lim W R):=λR m hB=>vq g W lim R m λV=>Ce (fI (W:=V) depth hl hi hb aa) λe v ⟨⟨a,n,q,o,F,he,r,h4⟩,h5⟩=>⟨⟨a,n,q,o,F,he,hB a n q o F r h4⟩,h5⟩
  have z:=λf hf m ab=>go _ m λa n q o F _ h4=>AF (by obtain rfl:=h4 f hf;exact⟨ab,U4 _⟩);rcases hc:bs[i]? with _|ai
  .conv=>rhs;rw[DR,hc]
   exact z _ (by unfold Eo;rw[hc]) (AF<|Id hc) rfl
  by_cases m:(i:J)=lim
  .conv=>rhs;rw[DR,hc]
   simp only[];rw[Cp m];exact z _ (by grind [Eo]) (AF<|Hs hl hc m) Z
  have hh:=J5 hl hi hc m;have hn:=Eu hi hc m;have c:=λV=>tR V depth l hc aa;have al:=vx aa ai;obtain⟨b,w,S,ag⟩:∃b w S,DS fm ai.toNat=(b,w,S):=⟨_,_,_,rfl⟩
  rw[TD hc m ag];rw[ag]at c al;simp only[]at c al;have t:¬b=0->Eo fm bs lim i=match CZ bs lim w (i+1) S with
    |.error f=>.error f
    |.ok (x,q)=>.ok (b,w,x,q):=λN=>by
   grind [Eo]
  by_cases N:b=0
  .rw[Cp N];have e:=XF hc m (by rw[ag];exact N);exact z _ e (AG ⟨hh,_,c,λh=>by simp at h;omega⟩) rfl
  rw[Cl N];have t:=t N;have B:∀x q R a,Eo fm bs lim i=.ok (b,w,x,q)->J7 b=a->RX bs fm depth l s i->gw (g+1) W bs fm depth l lim s R a (nR b w x) q (In b x)->Ar As 91 #[.agg<|Ct bs fm depth l,C Y i,C Y s] W (Jn (g+1) bs lim W R):=λx q R a hf ha m hB=>go R m λa n q' o F r _=>by obtain⟨rfl,rfl,rfl,rfl,rfl⟩:=r _ _ _ _ hf;rw[ha];exact AG ⟨Z,hB⟩
  by_cases ad:b=9\/b=10
  .have j:=c;rw[Fm ad]at j;by_cases ap:(s:J)=depth
   .grind [vp,Ie]
   rw[Cl λh=>ap h.2];have m:RX bs fm depth l s i:=AG ⟨hh,_,j,λ_=>E⟩;rcases har:CZ bs lim w (i+1) S with f|y
   .rw[har]at t;have ab:(f.1==0)=AQ:=BW;exact z f t m ab
   obtain⟨x,q⟩:=y;rw[har]at t;have u:=(Qo _ _ _ _ _ hn har).2;simp only[];have hJ:∀V (p:I),Cx bs lim p->Ar As 91 #[.agg<|Ct bs fm depth l,C Y p,C Y<|(s:J)+1] V (Jn g bs lim V<|DR (DS fm) bs lim depth g (s+1) p):=λV p aq=>ih (s+1) V p E E aq;have aj:=λp=>TJ (DS fm) (bs:=bs) (lim:=lim) (depth:=depth) g (s+1) p E E;have ak:=λp x q h=>Qf (DS fm) bs lim depth g (s+1) p x q h;rcases ad with rfl|rfl
   .have hP:=λV=>gu AQ (k:=g) V (bs:=bs) (fm:=fm) (d:=depth) (l:=l) (lim:=lim) (q0:=q) (x:=x) (n:=(nR 9 w x)) (In 9 x) (dp:=s) (U5 B8 B8) hl u hb E E aa (rd:=(DR (DS fm) bs lim depth g<|s+1)) aj ak hJ;exact B _ _ _ 6 t Z m<|AG<|AG<|AG<|AF ⟨AF Z,hP⟩
   have hP:=λV=>gu AP (k:=g) V (bs:=bs) (fm:=fm) (d:=depth) (l:=l) (lim:=lim) (q0:=q) (x:=x) (n:=(nR 10 w x)) (In 10 x) (dp:=s) (U5 B8 B8) hl u hb E E aa (rd:=(DR (DS fm) bs lim depth g<|s+1)) aj ak hJ;exact B _ _ _ 7 t Z m<|AG<|AG<|AG<|AF ⟨AG Z,hP⟩
  have j:=c;rw[FO ad]at j;rw[Cl λh=>ad h.1];have m:RX bs fm depth l s i:=AG ⟨hh,_,j,λe=>keC⟩;rcases har:CZ bs lim w (i+1) S with f|y
  .rw[har]at t;have ab:(f.1==0)=AQ:=BW;exact z f t m ab
  obtain⟨x,q⟩:=y;rw[har]at t;obtain⟨aw,u⟩:=Qo _ _ _ _ _ hn har;have av:0<q:=E;have ao:∀V,Ar As 84 #[.agg<|Ct bs fm depth l,C Y<|(q:J)-1,C Y 10] V λe v=>e=Ak (.agg<|Cf (10,(q:J)-1))/\A0 V v:=λV=>by
   obtain⟨r0,rfl⟩:∃r0,q=r0+1:=⟨q-1,E⟩
   have h:=M3 V bs fm depth l r0 10;rw[RP hl u,show(r0:J)=((r0+1:I):J)-1 by omega]at h;exact h
  simp only[];have ae:∀(a:J) (dd:A2),J7 b=a->0<=a/\a<=2->(∀v:X,CV (g+1) v (λan=>O (U W)<=an/\an<O (U v)) (.agg<|Cg a 0 ⟨#[]⟩ Cq Cq) dd)->Ar As 91 #[.agg<|Ct bs fm depth l,C Y i,C Y s] W (Jn (g+1) bs lim W<|.ok (dd,q)):=λa dd N P Q=>B _ _ _ a t N m<|AG<|AG<|AG<|AG ⟨P,λv h=>⟨h,u,_,_,_,_,_,_,_,_,_,Z,Q v⟩⟩;have am:=λP Q=>B _ _ _ 3 t P m<|AF ⟨Z,Q,E,AY u.1,_,ao,U4 _⟩;have af:∀ac,J7 b=3->In b x=AQ->nR b w x=ac -> -9223372036854775808<=ac/\ac<=9223372036854775807->Ar As 91 #[.agg<|Ct bs fm depth l,C Y i,C Y s] W (Jn (g+1) bs lim W<|.ok (.lit<|.int Y ac,q)):=λac P Q r h4=>by subst r;exact B _ _ _ 3 t P m<|AG<|AF ⟨Z,Q,λv h=>⟨h,u,_,_,_,_,_,_,_,_,_,Z,NW ⟨Z,h4⟩⟩⟩
  have hv:b=1\/b=2\/b=3\/b=4\/b=5\/b=6\/b=7\/b=8:=E;rcases hv with rfl|rfl|rfl|rfl|rfl|rfl|rfl|rfl
  .exact ae 0 _ Z B8 λ_=>NW Z
  .exact ae 1 _ Z B8 λ_=>NW Z
  .exact ae 2 _ Z B8 λ_=>NW Z
  .unfold Gn;simp only[];by_cases L:9223372036854775807<x
   .rw[show FE 4 w x q=.error (10,(q:J)-1) by simp[FE,L]];exact am Z kf0
   rw[show FE 4 w x q=.ok (x:J) by simp[FE,L]];exact af _ Z kf0 (by simp[nR];omega) E
  .unfold Gn;simp only[];rw[show FE 5 w x q=.ok (GG x w) by simp[FE]];exact af _ Z (by simp[In]) (by simp[nR])<|vy x w
  .unfold Gn;simp only[];by_cases L:9223372036854775807<x
   .rw[show FE 6 w x q=.error (10,(q:J)-1) by simp[FE,L]];exact am Z kf0
   rw[show FE 6 w x q=.ok (-1-(x:J)) by simp[FE,L]];exact af _ Z kf0 (by simp[nR];omega) E
  .have A:=λV=>uW V (bs:=bs) fm depth (i:=q) (x:=x) (n:=(nR 7 w x)) (U5 B8 B8) hl u hb;unfold Gn;simp only[];rcases hr:EV bs lim x q []with f|y
   .rw[hr]at A;exact B _ _ _ 5 t Z m<|AG<|AG<|AF ⟨AQ,⟨Z,λ_=>rfl⟩,_,0,f,A,U4 f⟩
   obtain⟨lx,ah⟩:=y;rw[hr]at A;exact B _ _ _ 5 t Z m<|AG<|AG<|AF ⟨AQ,⟨Z,λ_=>rfl⟩,_,ah,_,A,λv h=>⟨h,(fX _ _ _ _ _ u hr).1,_,_,_,_,_,_,_,_,_,Z,NW Z⟩⟩
  have A:=λV=>fW V (bs:=bs) fm depth (i:=q) (x:=x) (n:=(nR 8 w x)) (U5 B8 B8) hl u hb;unfold Gn;simp only[];rcases hr:Ds bs lim x q [] 0 with f|y
  .rw[hr]at A;exact B _ _ _ 4 t Z m<|AG<|AG<|AF ⟨AP,⟨Z,λe=>keC⟩,_,0,f,A,U4 f⟩
  obtain⟨lx,ah⟩:=y;rw[hr]at A;exact B _ _ _ 4 t Z m<|AG<|AG<|AF ⟨AP,⟨Z,λe=>keC⟩,_,ah,_,A,λv h=>⟨h,(XL _ _ _ _ _ _ u hr).1,_,_,_,_,_,_,_,_,_,Z,NW Z⟩⟩
def vz(k:I)(fm:J)(Q:fm=1)(L:∀V,Ar As 90 #[.agg<|Ct bs fm d l,C Y i,C Y 0] V<|Fc k bs lim V r):Ar As 54 #[.agg<|Ct bs fm d l,C Y i] W<|Fc k bs lim W r:=by
 have tf:(fm==1)=AP:=kfW;have B:D (∀V,Ar As 90 #[Ag #[Ae ⟨Aw bs⟩,C Y fm,C Y d,C Y l],C Y i,C Y 0] V<|Fc k bs lim V r):=L;have HX:=Ln W bs fm d l;have e:∀A,O (U<|Az (Az (Az W<|M A 115)<|M Cv 101)<|M (Cf (0,0)) 103)=O (U W)+3:=λA=>Ba;clear Q L;unfold Ct;go_enter func54,ntmps54
 go_wp2_with fail
 refine Ce (B _) ?_;rintro ae f S;obtain⟨ac,x,t,v,s,m,o,p,n,w,u,z,F,R,rfl,b,hF⟩:=MN S;have g:=T<|HX.next ac;have aa:=T R;have y:=T hF;have HA:D (∀a q,x=.ok (a,q)->Cx bs lim q/\z=(q:J)/\F=(0,0)/\CV k f (λj=>O (U W)+3<=j/\j<O (U f)) (.agg<|Cg t v s (G m o p)<|G n w u) a):=λa q h=>⟨(b a q h).1,(b a q h).2.1,(b a q h).2.2.1,(b a q h).2.2.2.same (λj c=>⟨by have h2:=c.1;have N:=e #[Ae ⟨Aw bs⟩,C Y fm,C Y d,C Y l];unfold Cv Cg Cq Cf at N;simp only[CL,A0]at h2 N;omega,c.2⟩) λ_ _=>rfl⟩
 clear S R hF b B e;simp only[]
 go_wp2_with(first
  |((with_reducible refine zT 4 13 rfl rfl (O (U W)+1) (Cg t v s (G m o p)<|G n w u) ?_ ?_);exact⟨Z,Z,g.b,thg⟩)
  |((with_reducible refine zF 6 15 rfl rfl (O (U W)+2) (F) ?_ ?_);exact⟨Z,Z,Gm g CT⟩))
 have P:=EO g CT (Cg t v s (G m o p)<|G n w u)<|F;refine F4 results54 P (C Y z) Z Z Z Z ⟨P.2.2,x,aa,?_⟩;obtain ab|ad:=x
 .obtain rfl:=y.out ab rfl;exact⟨_,_,_,_,_,_,_,_,_,_,Z⟩
 obtain⟨a,q⟩:=ad;obtain⟨hq,rfl,rfl,b⟩:=HA.out a q rfl;refine⟨hq,_,_,_,_,_,_,_,_,_,Z,b.same (λj c=>⟨AY c.1,by simpa using c.2⟩) λj c=>?_⟩;rw[Do _ _ _ _ E,Do _ _ _ _ E]
def gA(k:I)(fm:J)(ac:¬fm=1)(cJ:∀V,Ar As 91 #[.agg<|Ct bs fm d l,C Y i,C Y 0] V<|Fc k bs lim V r):Ar As 54 #[.agg<|Ct bs fm d l,C Y i] W<|Fc k bs lim W r:=by
 have tf:(fm==1)=AQ:=by simpa using ac
 have B:D (∀V,Ar As 91 #[Ag #[Ae ⟨Aw bs⟩,C Y fm,C Y d,C Y l],C Y i,C Y 0] V<|Fc k bs lim V r):=cJ;have HX:=Ln W bs fm d l;have R:∀A,O (U<|Az (Az (Az W<|M A 115)<|M Cv 101)<|M (Cf (0,0)) 103)=O (U W)+3:=λA=>Ba;unfold Ct;go_enter func54,ntmps54
 go_wp2_with fail
 refine Ce (B _) ?_;rintro ae S Q;obtain⟨ab,x,t,v,s,m,o,p,n,w,u,z,F,P,rfl,b,hF⟩:=MN Q;have g:=T<|HX.next ab;have y:=T P;have f:=T hF;have e:D (∀a q,x=.ok (a,q)->Cx bs lim q/\z=(q:J)/\F=(0,0)/\CV k S (λj=>O (U W)+3<=j/\j<O (U S)) (.agg<|Cg t v s (G m o p)<|G n w u) a):=λa q h=>⟨(b a q h).1,(b a q h).2.1,(b a q h).2.2.1,(b a q h).2.2.2.same (λj c=>⟨by have h2:=c.1;have L:=R #[Ae ⟨Aw bs⟩,C Y fm,C Y d,C Y l];unfold Cv Cg Cq Cf at L;simp only[CL,A0]at h2 L;omega,c.2⟩) λ_ _=>rfl⟩
 clear Q P hF b B R;simp only[]
 go_wp2_with(first
  |((with_reducible refine zT 4 19 rfl rfl (O (U W)+1) (Cg t v s (G m o p)<|G n w u) ?_ ?_);exact⟨Z,Z,g.b,thg⟩)
  |((with_reducible refine zF 6 21 rfl rfl (O (U W)+2) (F) ?_ ?_);exact⟨Z,Z,Gm g CT⟩))
 have N:=EO g CT (Cg t v s (G m o p)<|G n w u)<|F;refine F4 results54 N (C Y z) Z Z Z Z ⟨N.2.2,x,y,?_⟩;obtain aa|ad:=x
 .obtain rfl:=f.out aa rfl;exact⟨_,_,_,_,_,_,_,_,_,_,Z⟩
 obtain⟨a,q⟩:=ad;obtain⟨hq,rfl,rfl,b⟩:=e.out a q rfl;refine⟨hq,_,_,_,_,_,_,_,_,_,Z,b.same (λj c=>⟨AY c.1,by simpa using c.2⟩) λj c=>?_⟩;rw[Do _ _ _ _ E,Do _ _ _ _ E]
def gC(W:X)(g:fm=1\/fm=2\/fm=3)(hl:Lm bs l lim)(hb:K bs<=200000000)(j:lim<=200000000)(a:0<=d)(b:d<=100000)(hi:Cx bs lim i):Ar As 54 #[.agg<|Ct bs fm d l,C Y i] W<|Fc (d.toNat+1) bs lim W<|Ev fm bs d lim i:=by
 have c:d<((0:I):J)+((d.toNat+1:I):J):=E;rcases g with rfl|rfl|rfl
 .refine vz (d.toNat+1) 1 Z λV=>?_;exact XP (s:=⟨Ao,bs,0,d,lim,0,0⟩) 1 hl (CE hb B8) j b (d.toNat+1) 0 V i a c hi
 .refine gA (d.toNat+1) 2 B8 λV=>?_;exact Ce (gz 2 (AF Z) hl hb b (d.toNat+1) 0 V i a c hi) λe f h=>XM h
 refine gA (d.toNat+1) 3 B8 λV=>?_;exact Ce (gz 3 (AG Z) hl hb b (d.toNat+1) 0 V i a c hi) λe f h=>XM h
def gD{b c:J}:(Ct [] 0 0 0).size=(Ct bs a b c).size:=rfl
def gE{b c:J}:(Ct bs a b c).all (·.oneCell')=AP:=by simp[Ct,Value.oneCell']
structure QL(w:Ap)(c:CF)(N:AH)(A:A3)(W:Ap):Prop where
 ac:A0 w W
 h:W.heap[Au (Av w)]?=An (Aj c.ad 40)
 ad:W.heap[N]?=An (Aj A 126)
def QL.aq(h:QL w c N A W)(hb:A0 W W'):QL w c N A W' :=
 ⟨Cs h.ac<|CG hb h.ac.size,Ca (Co hb _<|Cd h.h) h.h,Ca (Co hb _<|Cd h.ad) h.ad⟩
theorem lL(h:¬CW c=0)(ps:AJ<|A1×AK):LD c ps=CW c/\Kt c ps=(0,0):=by grind [LD,Kt]
def Zb(h:CW c=0)(a:Jb ps=AQ):LD c ps=7/\Kt c ps=(0,0):=by simp[LD,Kt,h,a]
def lM(h:CW c=0)(a:Jb ps=AP):LD c ps=0/\Kt c ps=Dz c.c ((Ea c.e.data.toList).map DV) ps:=by simp[LD,Kt,h,a]
theorem QM(h:CW c=0):Fg c.a.toNat c.e.data.toList=0:=by rw[<-(QJ c).1]at h;grind [He]
theorem qtd(pc:I)(hc:Fa w c)(n:Ho w)(hp:Gc w pa ps)(hk:∀i (h:i<K ps),ps[i].1.length<=maxLen):Ar As 33 #[.agg c.ad,G pa (K ps) pc] w λe w'=>e=Ak (Af #[C Y (Kt c ps).1,C Y (Kt c ps).2,C Y<|LD c ps])/\A0 w w':=by
 have HS:=T c.size;have Q:=T hp;have HK:=T hk;have r:=T<|Pr w c;have cR:=US (r.ai hc)<|n.ac r.ac;have R:=T<|QJ c;clear hc n hp hk;go_enter func33,ntmps33
 go_wp2_with(first
  |(refine CO Z 40 _ Z _ Z _ _ _ _ r.h underlying40 Z (DC HS) ?_)
  |fail)
 refine Ce cR ?_;clear cR;rintro e a ⟨A,rfl,F,ae⟩;rw[R.1,R.2];have t:=T F.1;have u:=T F.2.1;have v:D<|EY.size=A.size:=by grind [Of]
 have s:=T<|r.aq ae;have b:D<|QL w c (O<|U a) A<|Az a<|M A 126:=⟨s.ac.alloc s.ac.size _,Ca (CB _ _ _<|Cd s.h) s.h,Cj _⟩
 have L:=F.2.2;rw[R.1]at L;clear F ae r s;by_cases j:CW c=0
 .obtain⟨_,sa,sk,sc,av,lo,_,ai⟩:=L j;obtain⟨ra,rc,ay,aj⟩:=ai.ac;injection ay with e1 e2 e3;subst e1;subst e2;subst e3;have W:A[37]?=H (G sa (K<|(Ea c.e.data.toList).map DV) sc):=by grind [Ja,Dc]
  have ab:D<|J8 (Az a<|M A 126) sa<|(Ea c.e.data.toList).map DV:=aj.ac Cm;have ad:=UX<|QM j;clear av L ai aj;cases o:Jb ps
  .have d:=T<|Zb j o;rw[j];have k:=lw pc<|Q.ac b.ac;rw[o]at k;clear j o ad W
   go_wp2_with(first
    |(refine Ni Z Z Z (O<|U a) Z ?_)
    |(refine D8 Z 126 _ _ Z (O<|U a) A Z Z 126 EY (Cj a) (KX t) v u ?_;rw[Ge])
    |(go_at_call 70;refine Ce k ?_;clear k;rintro e P ⟨rfl,m⟩;have l:=T<|b.aq m;clear m))
   go_ret3
   rw[d.1,d.2];exact⟨Z,l.ac⟩
  have d:=T<|lM j o;have ax:K ps<=4096:=by grind [Jb]
  rw[j];have k:=lw pc<|Q.ac b.ac;rw[o]at k;clear j o;obtain⟨y,h8,ak⟩:=ad;have V:=T h8;have q:=T ak;clear h8 ak;generalize(Ea c.e.data.toList).map DV=rs at *
  go_wp2_with(first
   |(refine Ni Z Z Z (O<|U a) Z ?_)
   |(refine D8 Z 126 _ _ Z (O<|U a) A Z Z 126 EY (Cj a) (KX t) v u ?_;rw[Ge])
   |(go_at_call 70;refine Ce k ?_;clear k;rintro e P ⟨rfl,m⟩;have l:=T<|b.aq m;have ac:=T<|ab.ac m;clear m ab b;have au:=Ca (Cc l.ad 37) W;have d2:A6 P (O<|U w) 2<|C Y c.c:=Cc l.h 2;have cC:=lu sc c.c ac y V q)
   |(go_at_call 57;refine Ce cC ?_;clear cC;rintro e w4 ⟨B,al,a3,ta,tc,nf,mf,rfl,_,ag⟩;have ap:=T<|q0V ag y ps;clear ag))
  have b:=T l.ac;clear au d2 W ac l t u v
  go_loopg[11,35] (K ps) (λg a0 az ar=>∃i f:I,a0=C Y f/\az=C Y i/\D (i+g=K ps)/\D (LE P B al rs c.c ps i f ar))
  grind [D];clear ap;obtain⟨i,f,rfl,rfl,n,p⟩:=hrel;obtain _|g:=gk
  .have aw:¬(i:J)<(K ps:J):=AY<|AE n;have hi:i=K ps:=AY<|AE n;subst hi;have cV:=q8a p;have an:=T d.1;have ao:=T d.2;clear d p;generalize Dz c.c rs ps=z at *
   go_wp2_with(first
    |(go_at_call 72;refine Ce cV ?_;clear cV;rintro e w5 ⟨rfl,af⟩;have am:=T af;clear af))
   go_ret3
   rw[AE an,AE ao];exact⟨Z,Cs b<|CG am b.size⟩
  have x:i<K ps:=AY<|AE n;have aw:(i:J)<(K ps:J):=B5;obtain⟨b2,a2,rfl,a1,p0,p1⟩:=(Q.ac<|Cs b<|CG p.ac b.size).aq i x;have aa:D<|LE P B al rs c.c ps i f<|Az wr<|M #[Ae ⟨ps[i].1.toArray⟩,Ah ps[i].2] 146:=p.aq Cm;have S:=q2V (h:=AE aa) y V q x ax<|HK i x;clear p aa;generalize ps[i]=st at *;obtain⟨key,ix⟩:=st;dsimp only at S p0 p1
  go_wp2_with(first
   |(go_at_call 71;refine Ce S ?_;clear S;rintro e w5 ⟨f',rfl,ah⟩;have aq:=T ah;clear ah))
  go_roundg g;exact⟨i+1,f',Z,Bb,B9,aq⟩;omega
 have d:=T<|lL j ps;clear L;generalize CW c=E at *;generalize E9 c=N at *
 go_wp2_with(first
  |(refine Ni Z Z Z (O<|U a) Z ?_)
  |(refine D8 Z 126 _ _ Z (O<|U a) A Z Z 126 EY (Cj a) (KX t) v u ?_;rw[Ge]))
 go_ret3
 rw[d.1,d.2];exact⟨Z,b.ac⟩
def q6N(s:A1)(t:A1×AK):Ir (DH s) t=if s==[42]then AP else if s==[42,42]then AQ else if s==[91,93]then t.2 else !t.2&&t.1==s:=by
 unfold DH;split
 .rfl
 split
 .rfl
 split
 .rfl
 rfl
theorem lN(s key:A1)(a:AK)(w:X):Ar As 145 #[Ae ⟨Aw s⟩,Ag #[Ae ⟨Aw key⟩,Ah a]] w λe d=>e=Ak (Ah<|Ir (DH s) (key,a))/\A0 w d:=by
 have f:=T<|q6N s (key,a);have c:D<|A0 w<|Az w<|M #[Ae ⟨Aw key⟩,Ah a] 146:=(Cu _ _).alloc (Cr _) _;cases g:(s==[42])
 .cases h:(s==[42,42])
  .cases i:(s==[91,93])
   .have b:D<|Ir (DH s) (key,a)=(!a&&key==s):=by grind [D]
    cases a
    .go_enter func145,ntmps145;go_wp2;go_ret;rw[AE b];exact⟨Z,c⟩
    go_enter func145,ntmps145;go_wp2;go_ret;rw[AE b];exact⟨Z,c⟩
   have b:D<|Ir (DH s) (key,a)=a:=B9;go_enter func145,ntmps145;go_wp2;go_ret;rw[AE b];exact⟨Z,c⟩
  have b:D<|Ir (DH s) (key,a)=AQ:=B9;go_enter func145,ntmps145;go_wp2;go_ret;rw[AE b];exact⟨Z,c⟩
 have b:D<|Ir (DH s) (key,a)=AP:=B9;go_enter func145,ntmps145;go_wp2;go_ret;rw[AE b];exact⟨Z,c⟩
structure QN(w:Ap)(a:A4)(ss:AJ A1):Prop where
 aq:∀i (h:i<At ss),∃b off,a=An ⟨b,off,Ao⟩/\b<Au (Av w)/\AC w ⟨b,off+i,Ao⟩=An (Ae ⟨ss[i].toArray⟩)
def QN.ac{a:A4}(h:QN w a ss)(hb:A0 w w'):QN w' a ss :=
 ⟨λi f=>by obtain⟨b,off,d,c,e⟩:=h.aq i f;exact⟨b,off,d,CQ c hb.size,Ca (hb.cell (p:=⟨b,_,Ao⟩) c) e⟩⟩
def Nm(s:A1)(ps:AJ<|A1×AK)(j:AH):AK:=match ps[j]? with
 |some t=>Ir (DH s) t
 |none=>AQ
def EL(s:A1)(ps:AJ<|A1×AK)(f:AH->AK)(k x:AH):AK :=
 (List.range k).any λj=>f j&&((s==[42,42]&&AR (j<=x))||(AR (x=j+1)&&Nm s ps j))
def qzG(s:A1)(ps:AJ<|A1×AK)(f:I->AK)(k x:I):EL s ps f (k+1) x=(EL s ps f k x||(f k&&((s==[42,42]&&AR (k<=x))||(AR (x=k+1)&&Nm s ps k)))):=by unfold EL;rw[xC]
theorem Zc{s:A1}:((DH s).1=1)↔(s==[42,42])=AP:=by grind [DH]
theorem qyI(s:A1)(ps:AJ<|A1×AK)(f:I->AK)(x:I)(hx:x<=K ps):EL s ps f (K ps+1) x=Md (DH s) ps f x:=by
 by_cases a:(s==[42,42])=AP
 .have b:=(Zc).2 a;have d:∀j,Nm s ps j=AQ:=by grind [Nm,Ir]
  have key:EL s ps f (K ps+1) x=(List.range<|x+1).any f:=by grind [EL]
  rw[key];cases x<;>grind [Md]
 have c:(s==[42,42])=AQ:=Bl;have b:=λh=>a<|(Zc).1 h;cases x<;>grind [Md,EL,Nm]
theorem Zd{S T:I->AK}(h:∀x,x<n->S x=T x):Gi n S=Gi n T:=by apply OC;grind [OP,nZ]
structure EB(w:Ap)(b c N:AH)(f g:AH->AK)(W:Ap):Prop where
 ac:A0 w W
 d:Au (Av w)<=b/\Au (Av w)<=c
 ne:b≠c
 e:W.heap[b]?=An (Aj (Gi N f) 4)
 a:W.heap[c]?=An (Aj (Gi N g) 4)
theorem EB.next{c:I}{g:I->AK}(h:EB w b c N f g W)(hb:A0 W W'):EB w b c N f g W' :=
 ⟨Cs h.ac<|CG hb h.ac.size,h.d,h.ne,Ca (Co hb _ (L7.1 h.e).1) h.e,Ca (Co hb _ (L7.1 h.a).1) h.a⟩
def EB.set{c:I}{g:I->AK}(h:EB w b c N f g W)(k:I):EB w b c N f (GV g k) (AB W ⟨c,k,Ao⟩<|Ah AP) :=
 ⟨h.ac.setCell h.d.2 _,h.d,h.ne,Ca (GB _ _ _ _<|by simpa using h.ne) h.e,by rw[DX W _ _ _ _ _ h.a,Tb]⟩
theorem EB.same{c:I}{g g':I->AK}(h:EB w b c N f g W)(a:∀x,x<N->g x=g' x):EB w b c N f g' W :=
 ⟨h.ac,h.d,h.ne,h.e,by rw[<-Zd a];exact h.a⟩
def EB.fr{c:I}{g:I->AK}(h:EB w b c N f g W)(k:I)(a:k<N):A6 W b k<|Ah<|f k:=Ca (Cc h.e k)<|OP f a
def EB.gr{c:I}{g:I->AK}(h:EB w b c N f g W)(k:I)(a:k<N):A6 W c k (Ah<|g k)/\W.frozen? ⟨c,k,Ao⟩=AQ:=⟨Ca (Cc h.a k)<|OP g a,Dy W c k _ _ h.a⟩
structure SF(w:Ap)(b N:AH)(f:AH->AK)(W:Ap):Prop where
 ac:A0 w W
 d:Au (Av w)<=b
 e:W.heap[b]?=An (Aj (Gi N f) 4)
theorem qyM(a:n<=4096)(w:X):(Instr.makeSlice 196 (C Y<|(n:J)+1)<|C Y<|(n:J)+1).run As w=.ok (G (Aa<|O<|U w) (n+1)<|n+1) (Az w<|M (Gi (n+1) λ_=>AQ) 4):=by have h:=run_make_row' (P:=As) 196 4 (Ah AQ) 1 underlying196 B6 rfl Y Y (n+1) E E w;grind [aX]
def SF.made(h:SF w b N f W):EB w b (O<|U W) N f (λ_=>AQ) (Az W<|M (Gi N λ_=>AQ) 4) :=
 ⟨h.ac.alloc h.ac.size _,⟨h.d,h.ac.size⟩,AY<|(L7.1 h.e).1,Ca (CB _ _ _ (L7.1 h.e).1) h.e,Cj _⟩
def E6{md:Region.Mode}{S:X->Prop}{oi:Oper}{fuel:I}{listed:Array AK}{a:Act}(i dst:I)(e:S w)(h:wpAnyH P md ops Q S fuel (Ay listed i AP) (a.put (H dst) Go.undef) w)(hi:ops[i]?=H oi:=by rfl)(b:(Region.noSelect ops&&Region.free md ops listed i&&(Region.ready md ops listed).contains i&&oi.dst==H dst && !Region.wanted oi (yielded ops a.tmps))=AP:=by kernel_rfl)(d:∀c a w,Q (.panic c) (a.put (H dst) Go.undef) w->Q (.panic c) a w:=by exact λ_ _ _ h=>h):wpAnyH P md ops Q S (fuel+1) listed a w:=by simp only[Fj]at b;have f:oi.dst=H dst:=C7;rw[<-f]at d h;exact EN hi b.1.1.1.1 b.1.1.1.2 b.1.1.2 d (AG ⟨by simpa using b.2,Z⟩) e h
theorem qt8(S:I->AK){m:I}(h:k<=m):GV (λx=>S x||(AR (k<=x)&&AR (x<m))) m=λx=>S x||(AR (k<=x)&&AR (x<m+1)):=by grind [GV]
theorem q6e{s:A1}{j:I}(h:j<K ps):Nm s ps j=Ir (DH s) (ps[j].1,ps[j].2):=by grind [Nm]
theorem q01(ps:AJ<|A1×AK)(h:i<K ss):Jo ((ss.take<|i+1).map DH) ps f=Md (DH ss[i]) ps (Jo ((ss.take i).map DH) ps f):=by grind [List.take_succ_eq_append_getElem,Yk]
theorem qpi{sa:A4}(sc pc:I)(a:QN w sa ss)(hP:Gc w pa ps)(hn:K ps<=4096)(hs:K ss<=1000):Ar As 105 #[Ac sa (K ss) sc,Ac pa (K ps) pc] w λab w'=>ab=Ak (Ah<|O9 (ss.map DH) ps)/\A0 w w':=by
 have HS:=T a;have HP:=T hP;have a4:=qyM hn;clear a hP;have ak:D<|SF w (O<|U w) (K ps+1) (λk=>k==0)<|Az w<|M (Ay (Gi (K ps+1) λ_=>AQ) 0<|Ah AP) 4:=by refine⟨(Cu _ _).alloc (Cr _) _,Cr _,?_⟩;grind [Cj,Tb,Zd,GV]
 have av:=OP (n:=(K ps+1)) (λ_=>AQ) (k:=0) E;go_enter func105,ntmps105;go_wp2;clear av
 go_loopg[5,6] (K ss) (λag az x V=>∃(i b:I),az=Ac (Aa b) (K ps+1) (K ps+1)/\x=C Y i/\D (i+ag=K ss)/\D (SF w b (K ps+1) (Jo ((ss.take i).map DH) ps λk=>k==0) V))
 exact⟨0,O<|U w,Z,Z,Bg,ak⟩;clear ak;obtain⟨i,b,rfl,rfl,hg,e⟩:=hrel;obtain _|ag:=gk
 .have ay:¬(i:J)<(K ss:J):=AY<|AE hg;have aw:=(Cc e.e<|K ps).trans<|OP _ E;have HF:D<|O9 (ss.map DH) ps=Jo ((ss.take i).map DH) ps (λk=>k==0) (K ps):=by show _=_;rw[Nt<|AY<|AE hg];rfl
  have HB:=T e.ac;clear e;generalize Jo ((ss.take i).map DH) ps (λk=>k==0) (K ps)=v0 at aw HF;go_wp2;go_ret;rw[AE HF];exact⟨Z,HB⟩
 have ap:i<K ss:=AY<|AE hg;have ay:(i:J)<(K ss:J):=E;have ar:D<|Jo ((ss.take<|i+1).map DH) ps (λk=>k==0)=Md (DH ss[i]) ps (Jo ((ss.take i).map DH) ps λk=>k==0):=q01 ps ap;have am:=T e.made;generalize Jo ((ss.take i).map DH) ps (λk=>k==0)=f at *;clear e;go_wp2;generalize Az wr (M (Gi (K ps+1) λ_=>AQ) 4)=V0 at *;generalize O (U wr)=c at *;have al:=T<|HS.aq i ap;obtain⟨B,F,rfl,ad,cS⟩:=AE al;clear al;generalize ss[i]=s at *
 go_loopg[8] (K ps+1) (λN aj V=>∃k:I,aj=C Y k/\D (k+N=K ps+1)/\D (EB w b c (K ps+1) f (EL s ps f k) V))
 exact⟨0,Z,Bg,am⟩;clear am;obtain⟨k,rfl,ah,o⟩:=hrel;obtain _|N:=gk
 .have a2:¬(k:J)<=(K ps:J):=AY<|AE ah;have HY:D<|SF w c (K ps+1) (Jo ((ss.take<|i+1).map DH) ps λk=>k==0) wr:=by have hk:k=K ps+1:=AY<|AE ah;subst hk;rw[AE ar];exact⟨o.ac,o.d.2,by rw[<-Zd (n:=(K ps+1)) λx hx=>qyI s ps f x E];exact o.a⟩
  clear o;go_wp2;go_roundg ag;exact⟨i+1,c,Z,Bb,B9,HY⟩;omega
 have R:k<K ps+1:=AY<|AE ah;have a0:(k:J)<=(K ps:J):=E;have HN:=T λx=>qzG s ps f k x;have cf:=o.fr k R;have cs:=(o.ac.cell (p:=⟨B,F+i,Ao⟩) ad).trans cS;cases A:f k
 .rw[A]at cf;have L:D<|EB w b c (K ps+1) f (EL s ps f<|k+1) wr:=o.same λx _=>by rw[HN.out x,A];simp
  clear o HN;go_wp2;have a:(λd:X=>EB w b c (K ps+1) f (EL s ps f<|k+1) d) {wr with drawn:=wr.drawn+1}:=L.next (Cu _ _).drew
  refine Ei (S:=λd=>EB w b c (K ps+1) f (EL s ps f<|k+1) d) B6 ?_;refine Cb 0 53 (Ac (Aa b) (K ps+1)<|K ps+1) a <| Cb 1 54 (C Y k) a <| Ch 2 55 (A9 b k) Z (λd j=>BS) a <| Ch 3 56 (Ah AQ) Z (λd j=>Br) a <| Cb 4 57 (Ah AQ) a <| E6 5 58 a <| E6 6 59 a <| E6 7 60 a <| E6 8 61 a <| Cb 9 62 (Ah AQ) a <| Cb 10 63 (Ah AQ) a <| E6 11 64 a <| E6 12 65 a <| E6 13 66 a <| E6 14 67 a <| E6 15 68 a <| E6 16 69 a <| E6 17 70 a <| E6 18 71 a <| E6 19 72 a <| Cb 20 73 (Ah AQ) a <| CK ?_;go_simp;have af:=T<|L.next (Cu _ _).drew;go_wp2;go_roundg N;exact⟨k+1,Bb,B9,af⟩;omega
 rw[A]at cf;cases a5:(s==[42,42])
 .have aa:D (∀x,EL s ps f (k+1) x=(EL s ps f k x||(AR (x=k+1)&&Nm s ps k))):=by grind [D]
  clear HN;by_cases ac:k<K ps
  .have ai:(k:J)<(K ps:J):=E;obtain⟨q,r,rfl,h,W,y⟩:=HP.aq k ac;have v:=λV=>lN s ps[k].1 ps[k].2 V;have HT:D<|Nm s ps k=Ir (DH s) (ps[k].1,ps[k].2):=q6e ac;generalize ps[k]=t at *;obtain⟨key,ix⟩:=t;dsimp only at v HT W y;cases ae:Ir (DH s) (key,ix)
   .rw[ae]at v;have L:D<|EB w b c (K ps+1) f (EL s ps f<|k+1) wr:=o.same λx _=>by grind [D]
    clear o aa HT ae;go_wp2;have a:(λd:X=>EB w b c (K ps+1) f (EL s ps f<|k+1) d) {wr with drawn:=wr.drawn+1}:=L.next (Cu _ _).drew
    refine Ei (S:=λd=>EB w b c (K ps+1) f (EL s ps f<|k+1) d) B6 ?_;refine Cb 0 53 (Ac (Aa b) (K ps+1)<|K ps+1) a <| Cb 1 54 (C Y k) a <| Ch 2 55 (A9 b k) Z (λd j=>BS) a <| Ch 3 56 (Ah AP) Z (λd j=>Br) a <| Cb 4 57 (Ah AP) a <| Cb 5 58 (C Y k) a <| Cb 6 59 (Ac (H ⟨q,r,Ao⟩) (K ps) pc) a <| Cb 7 60 (C Y<|K ps) a <| Ch 8 61 (Ah AP) Z (λd j=>Bh) a <| Cb 9 62 (Ah AP) a <| Cb 10 63 (Ah AP) a <| Cb 11 64 (Ac (H ⟨B,F,Ao⟩) (K ss) sc) a <| Cb 12 65 (C Y i) a <| Ch 13 66 (A9 B<|F+i) Z (λd j=>Bh) a <| Ch 14 67 (Ae ⟨Aw s⟩) Z (λd j=>by have l:=(j.ac.cell (p:=⟨B,F+i,Ao⟩) ad).trans cS;go_simp) a <| Cb 15 68 (Ac (H ⟨q,r,Ao⟩) (K ps) pc) a <| Cb 16 69 (C Y k) a <| Ch 17 70 (A9 q<|r+k*2) rfl (λd j=>Bh) a <| Ch 18 71 (Ag #[Ae ⟨Aw key⟩,Ah ix]) rfl (λd j=>by have l:=(j.ac.cell (p:=⟨q,r+k*2,Ao⟩) h).trans W;have z2:=(j.ac.cell (p:=⟨q,r+k*2+1,Ao⟩) h).trans y;go_simp) a <| CH 19 λan Q=>?_;go_simp;refine(v _).mono ?_;clear v;rintro ab w2 ⟨rfl,P⟩;have u:=T<|(L.next (Cu _ _).drew).next P;refine Q.out _ _ u λ_=>?_;clear Q P a;have a:=AE u;refine Cb 20 73 (Ah AQ) a <| CK ?_;go_simp;go_wp2;go_roundg N;exact⟨k+1,Bb,B9,u⟩;omega
   rw[ae]at v;have aq:D (∀x,GV (EL s ps f k) (k+1) x=EL s ps f (k+1) x):=by grind [D,GV]
   clear aa HT ae;go_wp2;have a:(λd:X=>EB w b c (K ps+1) f (EL s ps f k) d) {wr with drawn:=wr.drawn+1}:=o.next (Cu _ _).drew
   refine Ei (S:=λd=>EB w b c (K ps+1) f (EL s ps f k) d) B6 ?_;refine Cb 0 53 (Ac (Aa b) (K ps+1)<|K ps+1) a <| Cb 1 54 (C Y k) a <| Ch 2 55 (A9 b k) Z (λd j=>BS) a <| Ch 3 56 (Ah AP) Z (λd j=>Br) a <| Cb 4 57 (Ah AP) a <| Cb 5 58 (C Y k) a <| Cb 6 59 (Ac (H ⟨q,r,Ao⟩) (K ps) pc) a <| Cb 7 60 (C Y<|K ps) a <| Ch 8 61 (Ah AP) Z (λd j=>Bh) a <| Cb 9 62 (Ah AP) a <| Cb 10 63 (Ah AP) a <| Cb 11 64 (Ac (H ⟨B,F,Ao⟩) (K ss) sc) a <| Cb 12 65 (C Y i) a <| Ch 13 66 (A9 B<|F+i) Z (λd j=>Bh) a <| Ch 14 67 (Ae ⟨Aw s⟩) Z (λd j=>by have l:=(j.ac.cell (p:=⟨B,F+i,Ao⟩) ad).trans cS;go_simp) a <| Cb 15 68 (Ac (H ⟨q,r,Ao⟩) (K ps) pc) a <| Cb 16 69 (C Y k) a <| Ch 17 70 (A9 q<|r+k*2) rfl (λd j=>Bh) a <| Ch 18 71 (Ag #[Ae ⟨Aw key⟩,Ah ix]) rfl (λd j=>by have l:=(j.ac.cell (p:=⟨q,r+k*2,Ao⟩) h).trans W;have z2:=(j.ac.cell (p:=⟨q,r+k*2+1,Ao⟩) h).trans y;go_simp) a <| CH 19 λan Q=>?_;go_simp;refine(v _).mono ?_;clear v;rintro ab w2 ⟨rfl,P⟩;have u:=T<|(o.next (Cu _ _).drew).next P;refine Q.out _ _ u λ_=>?_;clear Q P a;have a:=AE u;refine Cb 20 73 (Ah AP) a <| CK ?_;go_simp;obtain⟨cg,fg⟩:=u.gr (k+1) E;clear a;generalize EL s ps f k (k+1)=v0 at cg;go_wp2;go_roundg N;exact⟨k+1,Bb,B9,(u.set<|k+1).same λx _=>aq.out x⟩;omega
  have ai:¬(k:J)<(K ps:J):=E;have L:D<|EB w b c (K ps+1) f (EL s ps f<|k+1) wr:=o.same λx _=>by grind [D]
  clear o aa;go_wp2;have a:(λd:X=>EB w b c (K ps+1) f (EL s ps f<|k+1) d) {wr with drawn:=wr.drawn+1}:=L.next (Cu _ _).drew
  refine Ei (S:=λd=>EB w b c (K ps+1) f (EL s ps f<|k+1) d) B6 ?_;refine Cb 0 53 (Ac (Aa b) (K ps+1)<|K ps+1) a <| Cb 1 54 (C Y k) a <| Ch 2 55 (A9 b k) Z (λd j=>BS) a <| Ch 3 56 (Ah AP) Z (λd j=>Br) a <| Cb 4 57 (Ah AP) a <| Cb 5 58 (C Y k) a <| Cb 6 59 (Ac pa (K ps) pc) a <| Cb 7 60 (C Y<|K ps) a <| Ch 8 61 (Ah AQ) Z (λd j=>Bh) a <| Cb 9 62 (Ah AQ) a <| Cb 10 63 (Ah AQ) a <| E6 11 64 a <| E6 12 65 a <| E6 13 66 a <| E6 14 67 a <| E6 15 68 a <| E6 16 69 a <| E6 17 70 a <| E6 18 71 a <| E6 19 72 a <| Cb 20 73 (Ah AQ) a <| CK ?_;go_simp;have af:=T<|L.next (Cu _ _).drew;go_wp2;go_roundg N;exact⟨k+1,Bb,B9,af⟩;omega
 have aa:D (∀x,EL s ps f (k+1) x=(EL s ps f k x||decide (k<=x))):=by grind [D]
 clear HN;generalize EL s ps f k=G at *;go_wp2
 go_loopg[9] (K ps+1-k) (λg3 aj V=>∃m:I,aj=C Y m/\D (m+g3=K ps+1/\k<=m)/\D (EB w b c (K ps+1) f (λx=>G x||(AR (k<=x)&&AR (x<m))) V))
 exact⟨k,Z,⟨E,Cr _⟩,o.same λx _=>by grind [D]⟩;clear o cf cs;obtain⟨m,rfl,ax,g⟩:=hrel;obtain _|g3:=gk
 .have a3:¬(m:J)<=(K ps:J):=by grind [D]
  have z:D<|EB w b c (K ps+1) f (EL s ps f<|k+1) wr:=g.same λx hx=>by grind [D]
  have au:=g.fr k R;rw[A]at au;clear g;by_cases ac:k<K ps
  .have ai:(k:J)<(K ps:J):=E;obtain⟨q,r,rfl,h,W,y⟩:=HP.aq k ac;have P0:=T W;have P1:=T y;clear W y;have v:=λV=>lN s ps[k].1 ps[k].2 V;have ht:Ir (DH s) (ps[k].1,ps[k].2)=AQ:=by grind [Ir,Zc]
   rw[ht]at v;clear ht;generalize ps[k]=t at *;obtain⟨key,ix⟩:=t;have W:=AE P0;have y:=AE P1;clear P0 P1;go_wp2;have a:(λd:X=>EB w b c (K ps+1) f (EL s ps f<|k+1) d) {wr with drawn:=wr.drawn+1}:=z.next (Cu _ _).drew
   refine Ei (S:=λd=>EB w b c (K ps+1) f (EL s ps f<|k+1) d) B6 ?_;refine Cb 0 53 (Ac (Aa b) (K ps+1)<|K ps+1) a <| Cb 1 54 (C Y k) a <| Ch 2 55 (A9 b k) Z (λd j=>BS) a <| Ch 3 56 (Ah AP) Z (λd j=>Br) a <| Cb 4 57 (Ah AP) a <| Cb 5 58 (C Y k) a <| Cb 6 59 (Ac (H ⟨q,r,Ao⟩) (K ps) pc) a <| Cb 7 60 (C Y<|K ps) a <| Ch 8 61 (Ah AP) Z (λd j=>Bh) a <| Cb 9 62 (Ah AP) a <| Cb 10 63 (Ah AP) a <| Cb 11 64 (Ac (H ⟨B,F,Ao⟩) (K ss) sc) a <| Cb 12 65 (C Y i) a <| Ch 13 66 (A9 B<|F+i) Z (λd j=>Bh) a <| Ch 14 67 (Ae ⟨Aw s⟩) Z (λd j=>by have l:=(j.ac.cell (p:=⟨B,F+i,Ao⟩) ad).trans cS;go_simp) a <| Cb 15 68 (Ac (H ⟨q,r,Ao⟩) (K ps) pc) a <| Cb 16 69 (C Y k) a <| Ch 17 70 (A9 q<|r+k*2) rfl (λd j=>Bh) a <| Ch 18 71 (Ag #[Ae ⟨Aw key⟩,Ah ix]) rfl (λd j=>by have l:=(j.ac.cell (p:=⟨q,r+k*2,Ao⟩) h).trans W;have z2:=(j.ac.cell (p:=⟨q,r+k*2+1,Ao⟩) h).trans y;go_simp) a <| CH 19 λan Q=>?_;go_simp;refine(v _).mono ?_;clear v;rintro ab w2 ⟨rfl,P⟩;have u:=T<|(z.next (Cu _ _).drew).next P;refine Q.out _ _ u λ_=>?_;clear Q P a;have a:=AE u;refine Cb 20 73 (Ah AQ) a <| CK ?_;go_simp;go_wp2;go_roundg N;exact⟨k+1,Bb,B9,u⟩;omega
  have ai:¬(k:J)<(K ps:J):=E;go_wp2;have a:(λd:X=>EB w b c (K ps+1) f (EL s ps f<|k+1) d) {wr with drawn:=wr.drawn+1}:=z.next (Cu _ _).drew
  refine Ei (S:=λd=>EB w b c (K ps+1) f (EL s ps f<|k+1) d) B6 ?_;refine Cb 0 53 (Ac (Aa b) (K ps+1)<|K ps+1) a <| Cb 1 54 (C Y k) a <| Ch 2 55 (A9 b k) Z (λd j=>BS) a <| Ch 3 56 (Ah AP) Z (λd j=>Br) a <| Cb 4 57 (Ah AP) a <| Cb 5 58 (C Y k) a <| Cb 6 59 (Ac pa (K ps) pc) a <| Cb 7 60 (C Y<|K ps) a <| Ch 8 61 (Ah AQ) Z (λd j=>Bh) a <| Cb 9 62 (Ah AQ) a <| Cb 10 63 (Ah AQ) a <| E6 11 64 a <| E6 12 65 a <| E6 13 66 a <| E6 14 67 a <| E6 15 68 a <| E6 16 69 a <| E6 17 70 a <| E6 18 71 a <| E6 19 72 a <| Cb 20 73 (Ah AQ) a <| CK ?_;go_simp;have u:=T<|z.next (Cu _ _).drew;go_wp2;go_roundg N;exact⟨k+1,Bb,B9,u⟩;omega
 have a1:(m:J)<=(K ps:J):=by grind [D]
 obtain⟨cg,fg⟩:=g.gr m E;have z:D<|EB w b c (K ps+1) f (λx=>G x||(AR (k<=x)&&AR (x<m+1)))<|AB wr ⟨c,m,Ao⟩<|Ah AP:=by have ao:=g.set m;rw[qt8 G ax.out.2]at ao;exact ao
 generalize(G m||(AR (k<=m)&&AR (m<m)))=v0 at cg;clear g;go_wp2;go_roundg g3;exact⟨m+1,Bb,⟨by grind [D],by grind [D]⟩,z⟩;omega
structure SG(w:Ap)(a:A4)(rs:AJ (AJ A1×AI×AI)):Prop where
 aq:∀i (h:i<At rs),∃b off pa pc,a=An ⟨b,off,Ao⟩/\b<Au (Av w)/\AC w ⟨b,off+i*3,Ao⟩=An (Ac pa rs[i].1.length pc)/\AC w ⟨b,off+i*3+1,Ao⟩=An (Ab Al rs[i].2.1)/\AC w ⟨b,off+i*3+2,Ao⟩=An (Ab Al rs[i].2.2)/\QN w pa rs[i].1
def SG.ac{a:A4}(h:SG w a rs)(hb:A0 w w'):SG w' a rs :=
 ⟨λi k=>by obtain⟨b,off,l,m,j,c,d,e,f,g⟩:=h.aq i k;exact⟨b,off,l,m,j,CQ c hb.size,Ca (hb.cell (p:=⟨b,_,Ao⟩) c) d,Ca (hb.cell (p:=⟨b,_,Ao⟩) c) e,Ca (hb.cell (p:=⟨b,_,Ao⟩) c) f,g.ac hb⟩⟩
structure Pv(w:Ap)(arr:A3)(W:Ap):Prop where
 ac:A0 w W
 h:W.heap[Au (Av w)]?=An (Aj arr 40)
theorem Pv.next(h:Pv w arr W)(hb:A0 W W'):Pv w arr W' :=
 ⟨Cs h.ac<|CG hb h.ac.size,Ca (Co hb _ (L7.1 h.h).1) h.h⟩
theorem lO(arr:A3)(d:J)(P:arr[2]?=H (C Y d))(rc pc:I)(N:SG w ra rs)(L:Gc w pa ps)(R:K ps<=4096)(hr:K rs<=1000)(S:∀i (h:i<K rs),rs[i].1.length<=1000):Ar As 73 #[.agg arr,G ra (K rs) rc,G pa (K ps) pc] w λe w'=>e=Ak (Af #[C Y (Dz d (rs.map DV) ps).1,C Y (Dz d (rs.map DV) ps).2])/\A0 w w':=by
 have y:=T N;have v:=T L;have ab:D<|Pv w arr<|Az w<|M arr 40:=⟨(Cu _ _).alloc (Cr _) _,Cj _⟩
 go_enter func73,ntmps73;go_wp2;generalize Az w (M arr 40)=V0 at *
 go_loopg[8] (K rs) (λg aa V=>∃i:I,aa=C Y i/\D (i+g=K rs)/\D (Pv w arr V)/\D (Dz d (rs.map DV) ps=Dz d ((rs.drop i).map DV) ps))
 grind [D];obtain⟨i,rfl,m,a,o⟩:=hrel;obtain _|g:=gk
 .have Q:¬(i:J)<(K rs:J):=AY<|AE m;have c:D<|Dz d (rs.map DV) ps=(d,1):=by have h:=AE o;rw[Oy<|AY<|AE m]at h;exact h
  have c2:=Ca (Cc a.h 2) P;go_wp2
  go_ret2
  rw[AE c];exact⟨Z,a.ac⟩
 have n:i<K rs:=AY<|AE m;have Q:(i:J)<(K rs:J):=E;have x:=S i n;obtain⟨b,off,qa,qc,rfl,l,A,B,F,W⟩:=y.aq i n;have u:D<|Dz d (rs.map DV) ps=if O9 (rs[i].1.map DH) ps then rs[i].2 else Dz d ((rs.drop<|i+1).map DV) ps:=by have h:=AE o;rw[K7 n,I8,Dz]at h;exact h
 have j:=qpi qc pc (W.ac a.ac) (v.ac a.ac) R x;have k0:=Ca (a.ac.cell (p:=⟨b,off+i*3,Ao⟩) l) A;have q:=T B;have s:=T F;generalize rs[i]=r at *;obtain⟨sg,lb,z⟩:=r;dsimp only at j k0 u q s;cases t:O9 (sg.map DH) ps
 .rw[t]at j;have c:D<|Dz d (rs.map DV) ps=Dz d ((rs.drop<|i+1).map DV) ps:=B9
  go_wp2_with(first
   |(go_at_call 105;refine Ce j ?_;rintro e w2 ⟨rfl,k⟩;have f:=T<|a.next k))
  go_roundg g;exact⟨i+1,Bb,B9,f,c⟩;omega
 rw[t]at j;have c:D<|Dz d (rs.map DV) ps=(lb,z):=B9
 go_wp2_with(first
  |(go_at_call 105;refine Ce j ?_;rintro e w2 ⟨rfl,k⟩;have f:=T<|a.next k;have k1:=Ca (f.ac.cell (p:=⟨b,off+i*3+1,Ao⟩) l) q;have k2:=Ca (f.ac.cell (p:=⟨b,off+i*3+2,Ao⟩) l) s))
 go_quiet (fail)
 go_wp2;refine CS (FP results73 _ _ _) Z ⟨?_,Cs f.ac ⟨Z,Z,Z,Cr _,λ_ _=>rfl⟩⟩;rw[AE c];rfl
def Ku(l:A1):Aq:=Ae ⟨Aw l⟩
theorem q0a(ps:AJ AT):(ps.map (·.data.toList)).map Ku=ps.map Value.string:=by rw[Mx];apply ZN;intro p _;show Value.string ⟨Aw p.data.toList⟩=_;rw[Sn]
def q6j(s:AT)(w:Ap)(e:Ending)(w':Ap):Prop :=
 ∃a n cap,e=Ak (Af #[Ac a n cap,Ah<|Fd s.data.toList])/\A0 w w'/\(Fd s.data.toList=AP->n=At (EZ s.data.toList)/\Fq w' (Au<|Av w) 9 a ((EZ s.data.toList).map Ku))
theorem qqn(hs:s.size<=100000):Ar As 143 #[.string s] w λe w'=>q6j s w e w':=by
 cases hd:(s.toList==[46])
 .have q:D<|Fd s.data.toList=((Db 47 s.data.toList).all GM&&AR (K (Db 47 s.data.toList)<=8)):=by grind [D,Fd,Lib.toList_data]
  go_enter func143,ntmps143
  go_wp2_with(first
   |(go_at_call 101;skip;refine Ce (Yx 47 47 Z hs) ?_;rintro e d ⟨ag,a,rfl,o,t,l⟩;obtain⟨g,ab,rfl,hg,ac,y⟩:=Yy o<|Uu l))
  have af:=Uu l;have R:D<|K a=K (EZ s.data.toList)/\Fq d (O<|U w) 9 (Aa g) ((EZ s.data.toList).map Ku):=by have r:EZ s.data.toList=a.map (·.data.toList):=ke8;obtain⟨pa,cp,he,W⟩:=kL o<|Cr _;grind [D,q0a]
  have ae:K a<=100001:=by have h1:=congrArg List.length l;have h2:=jl 47 s.data.toList;have V:K s.data.toList=s.size:=Fz;grind
  have B:∀p,p∈a->p.size<=4611686018427387904:=λp r=>by have:=Pm 47 s.data.toList p.data.toList B9;have V:K s.data.toList=s.size:=Fz;have h4:K p.data.toList=p.size:=Fz;omega
  have S:=T B;have L:=T y;have aa:D<|Fd s.data.toList=(a.all (λp=>GM p.data.toList)&&AR (K a<=8)):=B9;have u:=T t;clear t q l o y B
  go_loopg[5] (K a) (λgk x wr=>∃k:I,D (k+gk=K a)/\x=C Y k/\d=wr/\D (∀i (h:i<K a),i<k->GM a[i].data.toList=AP))
  grind [D];obtain⟨k,z,rfl,rfl,HL⟩:=hrel;obtain _|n:=gk
  .have v:¬(k:J)<K a:=AY<|AE z;have F:D<|Fd s.data.toList=AR ((K a:J)<=8):=by grind [D,List.getElem_of_mem]
   go_wp2
   go_ret2
   exact⟨_,_,_,by rw[AE F];rfl,u,λ_=>AE R⟩
  have v:(k:J)<K a:=AY<|AE z;have A:k<K a:=E;have W:=L.out k A;have j:=S.out a[k]<|PR A;have Q:D<|GM a[k].data.toList=AQ->Fd s.data.toList=AQ:=λh=>by grind [D]
  have m:D (GM a[k].data.toList=AP->∀i (h:i<K a),i<k+1->GM a[i].data.toList=AP):=λh i hi ad=>by grind [D]
  generalize a[k]=p at *;have P:D<|GM p.data.toList=(G9 p.data.toList||(p.toList==[42]||(p.toList==[42,42]||p.toList==[91,93]))):=by grind [GM,Lib.toList_data]
  cases f:G9 p.data.toList
  .cases e1:(p.toList==[42])
   .cases e2:(p.toList==[42,42])
    .cases e3:(p.toList==[91,93])
     .have N:=T (Q<|by grind [D])
      go_wp2_with(first
       |(go_at_call 179;refine Ce (Sa j) ?_;rintro e d ⟨rfl,rfl⟩;rw[f]))
      go_ret2
      exact⟨_,_,_,by rw[AE N];rfl,u,λe=>by grind [D]⟩
     have c:=m.out (by grind [D]);have b:=T c
     go_wp2_with(first
      |(go_at_call 179;refine Ce (Sa j) ?_;rintro e d ⟨rfl,rfl⟩;rw[f]))
     go_roundg n;exact⟨k+1,B9,Bb,Z,b⟩;omega
    have c:=m.out (by grind [D]);have b:=T c
    go_wp2_with(first
     |(go_at_call 179;refine Ce (Sa j) ?_;rintro e d ⟨rfl,rfl⟩;rw[f]))
    go_roundg n;exact⟨k+1,B9,Bb,Z,b⟩;omega
   have c:=m.out (by grind [D]);have b:=T c
   go_wp2_with(first
    |(go_at_call 179;refine Ce (Sa j) ?_;rintro e d ⟨rfl,rfl⟩;rw[f]))
   go_roundg n;exact⟨k+1,B9,Bb,Z,b⟩;omega
  have c:=m.out (by rw[AE P,f];rfl);have b:=T c
  go_wp2_with(first
   |(go_at_call 179;refine Ce (Sa j) ?_;rintro e d ⟨rfl,rfl⟩;rw[f]))
  go_roundg n;exact⟨k+1,B9,Bb,Z,b⟩;omega
 have q:D<|Fd s.data.toList=AP:=by grind [D,Fd,Lib.toList_data]
 go_enter func143,ntmps143;go_wp2
 go_ret2
 refine⟨Ao,0,0,by rw[AE q];rfl,Cu _ _,λ_=>?_⟩;have r:EZ s.data.toList=[]:=ke8;rw[r];exact⟨Z,AF Z⟩
def q2O(n:AH)(s:AT)(w:Ap)(e:Ending)(w':Ap):Prop :=
 ∃a m cap x y,e=Ak (Af #[.agg<|Fp a m cap x y,Ah<|Dn n s.data.toList])/\A0 w w'/\(Dn n s.data.toList=AP->m=(De s.data.toList).1.length/\x=(De s.data.toList).2.1/\y=(De s.data.toList).2.2/\Fq w' (Au<|Av w) 9 a ((De s.data.toList).1.map Ku))
theorem q3d{l:A1}{p0 p1 p2:AT}(a:[p0,p1,p2].map (·.data.toList)=Db 32 l)(b:p1.size=1)(c:(48:J)<=p1[0].toNat)(d:(p1[0].toNat:J)<=57):De l=(EZ p0.data.toList,(p1[0].toNat:J)-48,F6 p2):=by have h:=YU a.symm;rw[Sn]at h;grind [Xr,Lu]
theorem qzl(f0:arr[0]?=H (C Y n))(af:arr.size=11)(s:AT)(w:X)(v:s.size<=100000):Ar As 102 #[.agg arr,.string s] w λe w'=>q2O n s w e w':=by
 have HS:=T af;have aa:=T f0;have q:D ((prog.info? 193).map (·.size)=H E3.size):=Oc;go_enter func102,ntmps102;have T1:=trivial
 go_wp2_with(first
  |(go_at_call 101;go_loud (refine Ce (Yx (s:=s) 32 32 rfl v) ?_;rintro e w2 ⟨an,ps,rfl,N,u,o⟩;obtain⟨g,ag,rfl,hg,W,V⟩:=Yy N<|Uu o;have m:=T (yi w arr<|by simp only[CL,A0]at u;exact u);clear u N hg;rcases yl (n:=n) v o V with⟨aj,d⟩|⟨h,a,c,rfl,t,y,d⟩|⟨h,a,c,rfl,t,r,y,z,d⟩|⟨h,a,c,rfl,t,r,y,z,Q,d⟩|⟨h,a,c,rfl,ak,t,ae,r,y,z,Q,ab,d⟩;all_goals(first|(have ac:D<|De s.data.toList=(EZ h.data.toList,(a[0].toNat:J)-48,F6 c):=q3d o r z Q)|skip);all_goals clear o V))
  |(refine D8 Z 193 _ _ Z (O (U w)+1) E3 Z Z 193 E3 m.a q Z Uv ?_))
 all_goals first
  |(refine CS (IE results102 (g:=(O (U w)+1)) (cs:=E3) Z (CR _ _ E3 _ _ _ m.a) underlying193 Z Oc (Ah AQ) Z) Z ⟨Ao,0,0,0,0,by rw[AE d];rfl,Dq m.ac E,λe=>by grind [D]⟩)
  |skip
 refine Ce (qqn (s:=h) ab) ?_;rintro e w3 ⟨i,j,k,rfl,A,S⟩;have B:=T S;have L:=T m.d;clear S;have f:=T<|m.aq A;have al:=Ca (A.cell (p:=⟨g,1,Ao⟩) W) t;have am:=Ca (A.cell (p:=⟨g,2,Ao⟩) W) ae;cases P:Fd h.data.toList
 .have l:D<|Dn n s.data.toList=AQ:=by grind [D]
  clear d
  go_wp2_with(first
   |(go_at_call 144;refine Ce (Xp) ?_;rintro e b ⟨rfl,rfl⟩)
   |(refine D8 Z 193 _ _ Z (O (U w)+1) (Fp i j k ((a[0].toNat:J)-48)<|F6 c) Z Z 193 E3 f.a q Z (Pn) ?_))
  refine CS (IE results102 (cs:=(Fp i j k ((a[0].toNat:J)-48)<|F6 c)) Z (CR _ _ E3 _ _ _ f.a) underlying193 Z Oc (Ah AQ) Z) Z ⟨_,_,_,_,_,by rw[AE l],Dq f.ac E,λe=>by grind [D]⟩
 by_cases e2:F6 c=0
 .have l:D<|Dn n s.data.toList=AQ:=by grind [D]
  clear d
  go_wp2_with(first
   |(go_at_call 144;refine Ce (Xp) ?_;rintro e b ⟨rfl,rfl⟩)
   |(refine D8 Z 193 _ _ Z (O (U w)+1) (Fp i j k ((a[0].toNat:J)-48) 0) Z Z 193 E3 f.a q Z (Pn) ?_))
  refine CS (IE results102 (cs:=(Fp i j k ((a[0].toNat:J)-48) 0)) Z (CR _ _ E3 _ _ _ f.a) underlying193 Z Oc (Ah AQ) Z) Z ⟨_,_,_,_,_,by rw[AE l],Dq f.ac E,λe=>by grind [D]⟩
 have ai:(F6 c != 0)=AP:=by simp[e2]
 have l:D<|Dn n s.data.toList=Dg n ((a[0].toNat:J)-48):=by grind [D]
 clear d
 go_wp2_with(first
  |(go_at_call 144;refine Ce (Xp) ?_;rintro e b ⟨rfl,rfl⟩)
  |(go_at_call 60;refine Ce (OO aa _ _) ?_;rintro e w5 ⟨rfl,R⟩;have x:=T<|f.aq R;have F:D<|j=K (EZ h.data.toList)/\Fq w5 (O<|U w2) 9 i ((EZ h.data.toList).map Ku):=⟨(B P).1,(B P).2.ac R⟩)
  |(refine F0 Z ?hw Z f.h underlying40 Z (DC HS) ?_;case hw=>simp[go_sem];done)
  |(refine D8 Z 193 _ _ Z (O (U w)+1) (Fp i j k ((a[0].toNat:J)-48)<|F6 c) Z Z 193 E3 x.a q Z (Pn) ?_))
 refine CS (IE results102 (cs:=(Fp i j k ((a[0].toNat:J)-48)<|F6 c)) Z (CR _ _ E3 _ _ _ x.a) underlying193 Z Oc (Ah<|Dg n<|(a[0].toNat:J)-48) Z) Z ⟨_,_,_,_,_,by rw[AE l],Dq x.ac E,λ_=>?_⟩;rw[AE ac];exact⟨F.1,Z,Z,F.2.kept λad ah fr r h3=>⟨AY<|AE L,Ca (Do _ (O (U w)+1) ad _<|AY<|AE L) h3⟩⟩
def SH(r:AJ A1×AI×AI):AJ Aq×AH×AI×AI:=(r.1.map Ku,At r.1,r.2.1,r.2.2)
def Ze(W:Ap)(lo:AH)(v:Aq)(rs:AJ<|AJ A1×AI×AI):Prop:=∃xs,W.ownsRow lo 193 3 v (At rs) xs/\Gb W lo 9 xs (rs.map SH)
def q69(n:AH)(s:AT)(w:Ap)(e:Ending)(w':Ap):Prop :=
 ∃a m cap,e=Ak (Af #[Ac a m cap,Ab Al<|E5 n s.data.toList])/\A0 w w'/\(E5 n s.data.toList<0->Ze w' (Au<|Av w) (Ac a m cap) (Ea s.data.toList))
theorem q3D{W4 w5:X}{o:Obj}{base:I}{xs:AJ Aq}{es:AJ<|AJ Aq×I×J×J}{rm rc:I}{rx ry:J}{p:AT}(n:W4.ownsRow base 193 3 v k xs)(q:Gb W4 lo 9 xs es)(l:rm=(De p.data.toList).1.length/\rx=(De p.data.toList).2.1/\ry=(De p.data.toList).2.2/\Fq W4 lo 9 ra ((De p.data.toList).1.map Ku))(m:(Az W4 o).grownBy w5<|Ax v):Gb w5 lo 9 (xs++[G ra rm rc,C Y rx,C Y ry])<|es++[SH<|De p.data.toList]:=by
 obtain⟨d,f,g,i⟩:=l;have h:=Gb.push (pa:=ra) (pc:=rc) q (e:=SH<|De p.data.toList) i;rw[d,f,g];refine h.kept λb t fr r c=>⟨r,?_⟩
 have j:=(L7.1 c).1;refine(m.block b kfD λe=>?_).trans<|(CB _ _ _ j).trans c;rcases n.2 with⟨a,_⟩|⟨w,s,u,a,x,y,_⟩
 .rw[a]at e;cases e
 rw[a]at e;injection e with e;grind
theorem Zf(hn:c.a=n):Ar As 64 #[.agg c.ad] w λe l=>q69 n c.e w e l:=by
 have hl:K c.e.data.toList=c.e.size:=Fz;have f3:c.ad[3]?=H (.string c.e):=rfl;have au:D<|c.ad[0]?=H (C Y n):=by show _=_;rw[<-hn];rfl
 obtain⟨i0,hi,bc,bd,be⟩:=DL Tryz.infoRule;by_cases bh:(2000:J)<c.e.size
 .have A:D<|E5 n c.e.data.toList=0:=by grind [D,E5]
  go_enter func64,ntmps64;go_wp2
  go_ret2
  exact⟨_,_,_,by rw[AE A];rfl,(Cu _ _).alloc (Cr _) _,λe=>by rw[AE A]at e;omega⟩
 cases he:(c.e.toList==[])
 .have a7:c.e.size≠0:=by grind [Lib.toList_data]
  have A:D<|E5 n c.e.data.toList=JV n (Db 10 c.e.data.toList) 0:=by grind [D,E5]
  have am:c.e.size<=100000:=E;go_enter func64,ntmps64
  go_wp2_with(first
   |(go_at_call 101;skip;refine(Yx 10 10 Z am).mono ?_;rintro e u ⟨ah,m,rfl,HO,HB,HE⟩;obtain⟨g,a2,rfl,hg,a3,ak⟩:=Yy HO<|Uu HE))
  have bb:O (U w)<O (U u):=Bx;have a1:D<|A7 u (O<|U w) c.ad 40:=(HB.block _ Ba).trans<|Cj _;have ai:=T ak;have a0:D (E5 n c.e.data.toList=JV n (m.map (·.data.toList)) 0):=B9;have ad:=T<|((Cu _ _).alloc (Cr _) _).trans<|HB.mono Ba;have az:D (∀p,p∈m->p.size<=100000):=λp F=>by have:=Pm 10 c.e.data.toList p.data.toList B9;have h4:K p.data.toList=p.size:=Fz;omega
  have bi:O (U w)<g:=Bx;have aw:D<|Ea c.e.data.toList=m.map λp=>De p.data.toList:=by show _=_;unfold Ea;rw[Cl E,<-HE,Mx];rfl
  clear HB HO ak HE A hg
  go_loopg[4,6] (K m) (λgk ah aq wr=>∃(k:I) (q:AJ Aq) (ao:A4) (cv:I),D (k+gk=K m)/\ah=G ao k cv/\aq=C Y k/\D (wr.ownsRow (O<|U u) 193 3 ah k q)/\D (A0 u wr)/\D (E5 n c.e.data.toList=JV n ((m.map (·.data.toList)).drop k) k)/\D (Gb wr (O<|U u) 9 q<|(m.take k).map λp=>SH<|De p.data.toList))
  exact⟨0,[],Ao,0,Bg,Z,Z,Fi _ _ _ _,Cu _ _,a0,UQ⟩;obtain⟨k,q,ao,cv,hk,rfl,rfl,av,y,HL,aj⟩:=hrel;have bk:=y.size;obtain _|gg:=gk
  .have a6:¬(k:J)<K m:=AY<|AE hk;have t:D<|E5 n c.e.data.toList = -1:=by show _=_;rw[AE HL,Oy B9];rfl
   go_wp2
   go_ret2
   refine⟨_,_,_,by rw[AE t];rfl,ad.trans<|y.mono E,λ_=>?_⟩;have a5:k=K m:=AY<|AE hk;subst a5;have h1:=AE aj;rw[LN]at h1;refine⟨q,?_,?_⟩
   .grind [D,kN]
   rw[AE aw,Mx];exact h1.kept λb af fr k1 P=>⟨E,P⟩
  have a6:(k:J)<K m:=AY<|AE hk;have a4:k<K m:=E;have L:=(y.cell (p:=⟨g,k,Ao⟩) a3).trans<|ai k a4;have x:=(y.block _ bb).trans a1;have V:O (U w)<O (U wr):=E;have ap:g<O (U wr):=E;obtain⟨p,F⟩:=IB<|m[k];have HP:=T F;rw[<-F]at L;have cR:=λW=>qzl au Z p W (by grind [D]);have HC:D (E5 n c.e.data.toList=if Dn n p.data.toList=AP/\k<16 then JV n ((m.map (·.data.toList)).drop<|k+1) (k+1)else(k:J)):=by grind [List.drop_eq_getElem_cons,JV]
  clear F hl f3 he a7 am ai az HL;go_wp2;refine Ei (S:=λW=>A7 W (O<|U w) c.ad 40/\A6 W g k (.string p)) B6 ?_;have R:(λW:X=>A7 W (O<|U w) c.ad 40/\A6 W g k (.string p)) {wr with drawn:=wr.drawn+1}:=⟨x,L⟩
  refine Ch 0 26 (.agg c.ad) Z (λW hW=>yo (.tmp 1) Z Z hW.1 underlying40 Z<|DC Z) R <| Cb 1 27 (G (Aa g) (K m) a2) R <| Cb 2 28 (C Y k) R <| Ch 3 29 (A9 g k) Z (λW hW=>Bh) R <| Ch 4 30 (.string p) Z (λW hW=>by have h2:=hW.2;go_simp) R <| Hk 5 9 (λQ j=>?ga) λQ j=>?gb
  case' ga =>
   go_simp;refine(cR _).mono ?_;rintro e l ⟨a,d,rc,f,i,rfl,B,ab⟩;simp only[];have r:D<|Dn n p.data.toList=AP->d=(De p.data.toList).1.length/\f=(De p.data.toList).2.1/\i=(De p.data.toList).2.2/\Fq l (O<|U wr) 9 a ((De p.data.toList).1.map Ku):=ab;clear ab;refine j.out _ _ ⟨(B.block _ V).trans x,(B.cell (p:=⟨g,k,Ao⟩) ap).trans L⟩ λo=>?_;clear j;refine Cb 6 25 (Af #[.agg<|Fp a d rc f i,Ah<|Dn n p.data.toList]) o <| Cb 7 32 (.agg<|Fp a d rc f i) o <| Cb 8 33 (Ah<|Dn n p.data.toList) o ?_;have an:=B.size;refine CH 9 λQ j=>?_;go_simp;refine j.out _ _ ⟨(CB _ _ _<|CQ V an).trans o.1,(Iy _ _ _<|by rw[o.2];rfl).trans o.2⟩ λac=>?_;clear j;refine CH 10 λQ j=>?_;rw[Cp keJ];refine Jf 193 _ _ Z (O<|U l) (Fp a d rc f i) Z Z 193 E3 (Cj l) Oc Z (Pn) ?_;rw[Ge];refine j.out _ _ ⟨(CB _ _ _<|CQ V an).trans o.1,(Iy _ _ _<|by rw[o.2];rfl).trans o.2⟩ λag=>?_;clear j;refine Cb 11 8 (Ah<|Dn n p.data.toList) ag <| CK ?_;have s:D<|Ux u wr (O<|U l) (Fp a d rc f i)<|Az l<|M (Fp a d rc f i) 193:=ym y B;have z:D<|Dn n p.data.toList=AP->d=(De p.data.toList).1.length/\f=(De p.data.toList).2.1/\i=(De p.data.toList).2.2/\Fq (Az l<|M (Fp a d rc f i) 193) (O<|U wr) 9 a ((De p.data.toList).1.map Ku):=λh=>⟨(r h).1,(r h).2.1,(r h).2.2.1,(r h).2.2.2.ac<|(Cu _ _).alloc (Cr _) _⟩
   clear r;generalize Az l (M (Fp a d rc f i) 193)=W4 at *;generalize O (U l)=N at *
  case' gb =>
   go_simp;refine j.out _ _ ⟨(CB _ _ _ V).trans x,(Iy _ _ _<|by rw[L];rfl).trans L⟩ λo=>?_;clear j;refine CH 5 λQ j=>?_;go_simp;refine(cR _).mono ?_;rintro e l ⟨a,d,rc,f,i,rfl,B,ab⟩;simp only[];have r:D<|Dn n p.data.toList=AP->d=(De p.data.toList).1.length/\f=(De p.data.toList).2.1/\i=(De p.data.toList).2.2/\Fq l (O (U wr)+1) 9 a ((De p.data.toList).1.map Ku):=by grind [D,World.size_alloc,World.drew]
   clear ab;have aa:Below (O (U wr)+1) (Az wr<|M E3 193).drew l:=by have:=B;simp only[CL,World.drew,A0]at this;exact this
   refine j.out _ _ ⟨(aa.block _ E).trans o.1,(aa.cell (p:=⟨g,k,Ao⟩)<|show g<_ by omega).trans o.2⟩ λac=>?_;clear j;refine Cb 6 25 (Af #[.agg<|Fp a d rc f i,Ah<|Dn n p.data.toList]) ac <| Cb 7 32 (.agg<|Fp a d rc f i) ac <| Cb 8 33 (Ah<|Dn n p.data.toList) ac <| CH 10 λQ j=>?_;rw[Cp keJ];refine Jf 193 _ _ Z (O<|U wr) (Fp a d rc f i) Z Z 193 E3 ((aa.block _ E).trans<|Cj wr) Oc Z (Pn) ?_;have s:D<|Ux u wr (O<|U wr) (Fp a d rc f i)<|AD l (O<|U wr)<|Fp a d rc f i:=yn y aa;refine j.out _ _ ⟨(s.same _ V).trans x,(Je (w:=wr)<|s.same g ap).trans L⟩ λag=>?_;clear j;refine Cb 11 8 (Ah<|Dn n p.data.toList) ag <| CK ?_;have z:D<|Dn n p.data.toList=AP->d=(De p.data.toList).1.length/\f=(De p.data.toList).2.1/\i=(De p.data.toList).2.2/\Fq (AD l (O<|U wr)<|Fp a d rc f i) (O<|U wr) 9 a ((De p.data.toList).1.map Ku):=λh=>⟨(r h).1,(r h).2.1,(r h).2.2.1,(r h).2.2.2.kept λb af fr h1 h3=>⟨E,(Do _ (O<|U wr) b _ E).trans h3⟩⟩
   clear r;generalize AD l (O<|U wr) (Fp a d rc f i)=W4 at *
  all_goals
   cases e1:Dn n p.data.toList
   .have t:D<|E5 n c.e.data.toList=k:=B9;go_wp2
    go_ret2
    exact⟨_,_,_,by rw[AE t];rfl,ad.trans<|s.ac.mono E,λe=>by rw[AE t]at e;omega⟩
   by_cases bg:(16:J)<=k
   .have t:D<|E5 n c.e.data.toList=k:=B9;go_wp2
    go_ret2
    exact⟨_,_,_,by rw[AE t];rfl,ad.trans<|s.ac.mono E,λe=>by rw[AE t]at e;omega⟩
   have t:D (E5 n c.e.data.toList=JV n ((m.map (·.data.toList)).drop<|k+1) (k+1)):=B9;have ae:=T<|jn av s.same;have a9:=s.ac.size;have ay:=T<|aj.kept λb af fr k1 P=>⟨k1,(s.same b (L7.1 P).1).trans P⟩;have ar:D<|d=(De p.data.toList).1.length/\f=(De p.data.toList).2.1/\i=(De p.data.toList).2.2/\Fq W4 (O<|U u) 9 a ((De p.data.toList).1.map Ku):=⟨(z e1).1,(z e1).2.1,(z e1).2.2.1,(z e1).2.2.2.kept λb af fr k1 P=>⟨E,P⟩⟩
   clear z;have ax:D<|_=H (Obj.cells #[G a d rc,C Y f,C Y i] 193):=s.ad
   go_wp2_with(first
    |(refine CO Z 193 _ Z _ Z _ _ _ _ ax underlying193 Z Oc ?_)
    |(at_builtin;refine K8 _ Z _ _ 138 Z (O<|U u) 193 i0 (.agg E3) 3 40 underlying138 hi bc bd be Z B8 _ _ _ Z (ae.alloc _) ⟨O<|U W4,0,Ao⟩ 1 1 [G a d rc,C Y f,C Y i] Z Z (EU) (λaq hx=>kew) Bc E B7 ?_;intro v' w5 a8 al bj))
   go_roundg gg
   .obtain⟨g3,v,ba⟩:∃g3 v,v'=G (Aa g3) (k+1) v:=by rcases a8.2 with⟨_,h⟩|⟨g3,v,_,h,_⟩<;>grind
    exact⟨k+1,q++[AX a d rc,Value.int Y f,Value.int Y i],Aa g3,v,B9,ba,Bb,(by grind [D]),(s.ac.alloc a9 _).grown al B7 λbf hq=>(ae.lt bf hq).1,t,by have h:=q3D (rc:=rc) ae ay ar al;grind [D,List.take_succ_eq_append_getElem]⟩
   omega
 have A:D<|E5 n c.e.data.toList = -1:=by grind [D,Lib.toList_data,E5]
 go_enter func64,ntmps64;go_wp2
 go_ret2
 refine⟨Ao,0,0,by rw[AE A];rfl,(Cu _ _).alloc (Cr _) _,λ_=>?_⟩;have F:Ea c.e.data.toList=[]:=by grind [Lib.toList_data,Ea]
 rw[F];exact⟨[],Fi _ _ _ _,UQ⟩
def q2y(f:c.a=n)(w:X):Ar As 64 #[.agg c.ad] w λe g=>∃a m b,e=Ak (Af #[G a m b,C Y<|E5 n c.e.data.toList])/\A0 w g :=
 (Zf f).mono λ_ _ ⟨a,m,b,h,d,_⟩=>⟨a,m,b,h,d⟩
theorem qw7(i o d b:J):(EJ i o d b=AQ/\DU i=AQ)\/(EJ i o d b=AQ/\DU i=AP/\DU o=AQ)\/(EJ i o d b=AQ/\DU i=AP/\DU o=AP/\d<1)\/(EJ i o d b=AQ/\DU i=AP/\DU o=AP/\1<=d/\16<d) \/
  (EJ i o d b=AQ/\DU i=AP/\DU o=AP/\1<=d/\d<=16/\b<1)\/(EJ i o d b=AQ/\DU i=AP/\DU o=AP/\1<=d/\d<=16/\1<=b/\4096<b)\/(EJ i o d b=AP/\DU i=AP/\DU o=AP/\1<=d/\d<=16/\1<=b/\b<=4096):=by
 grind [EJ]
def Vg:bq 27 CW E9:=by
 intro c w x hg;have y:=T x;have ah:D<|K c.B<=maxLen:=by have:=x.bb;show _<=_;unfold maxLen;omega
 have P:=T c.size;have b:=T<|Pr w c;have s:=qzn<|b.ai x;clear x hg;cases o:F9 c.a c.L
 focus
  have d:Mg c=AQ:=by unfold Mg;rw[o];rfl
  have f:D<|CW c=1:=by show _=_;unfold CW;simp[d]
  have i:D<|E9 c=0:=by show _=_;unfold E9;rw[AE f];rfl
  rw[o]at s;clear o d
 rotate_left
 rw[o]at s;obtain⟨A,F⟩:=Ps o;have N:=T F;have aj:=T A.symm;have ai:D<|c.ad[0]?=H (C Y (c.a.toNat:I)):=by show _=_;rw[A];rfl
 have S:=λal ak=>OO ai al ak;have d:Mg c=(Dg c.a.toNat c.c&&Dg c.a.toNat c.d):=by unfold Mg;rw[o];rfl
 clear o A F;cases j:Dg c.a.toNat c.c
 focus
  have f:D<|CW c=1:=by show _=_;unfold CW;simp[d,j]
  have i:D<|E9 c=0:=by show _=_;unfold E9;rw[AE f];rfl
  clear d
 rotate_left
 cases k:Dg c.a.toNat c.d
 focus
  have f:D<|CW c=1:=by show _=_;unfold CW;simp[d,j,k]
  have i:D<|E9 c=0:=by show _=_;unfold E9;rw[AE f];rfl
  clear d
 rotate_left
 cases l:Nf c.a.toNat (DZ c.a.toNat c.L)
 focus
  have f:D<|CW c=2:=by show _=_;unfold CW;simp[d,j,k,l]
  have i:D<|E9 c=0:=by show _=_;unfold E9;rw[AE f];rfl
  clear d
 rotate_left
 cases m:Ng c.a.toNat (DZ c.a.toNat c.L)
 focus
  have f:D<|CW c=3:=by show _=_;unfold CW;simp[d,j,k,l,m]
  have i:D<|E9 c=0:=by show _=_;unfold E9;rw[AE f];rfl
  clear d
 rotate_left
 rcases qw7 c.f c.out c.b c.bytes with⟨g,p⟩|⟨g,p,q⟩|⟨g,p,q,t⟩|⟨g,p,q,t,z⟩|⟨g,p,q,t,z,R⟩|⟨g,p,q,t,z,R,b2⟩|⟨g,p,q,t,z,R,b2⟩
 focus
  have f:D<|CW c=4:=Bq;have i:D<|E9 c=0:=by show _=_;unfold E9;rw[AE f];rfl
  clear d g
 rotate_left
 focus
  have f:D<|CW c=4:=Bq;have i:D<|E9 c=0:=by show _=_;unfold E9;rw[AE f];rfl
  clear d g
 rotate_left
 focus
  have f:D<|CW c=4:=Bq;have i:D<|E9 c=0:=by show _=_;unfold E9;rw[AE f];rfl
  clear d g
 rotate_left
 focus
  have f:D<|CW c=4:=Bq;have i:D<|E9 c=0:=by show _=_;unfold E9;rw[AE f];rfl
  clear d g
 rotate_left
 focus
  have f:D<|CW c=4:=Bq;have i:D<|E9 c=0:=by show _=_;unfold E9;rw[AE f];rfl
  clear d g
 rotate_left
 focus
  have f:D<|CW c=4:=Bq;have i:D<|E9 c=0:=by show _=_;unfold E9;rw[AE f];rfl
  clear d g
 rotate_left
 cases u:IF c.B
 focus
  have f:D<|CW c=5:=by show _=_;unfold CW;simp[d,j,k,l,m,g,u]
  have i:D<|E9 c=0:=by show _=_;unfold E9;rw[AE f];rfl
  clear d
 rotate_left
 by_cases v:0<=E5 c.a.toNat c.e.data.toList
 focus
  have f:D<|CW c=6:=ke6;obtain⟨V,n⟩:=DF<|E5 c.a.toNat c.e.data.toList;have Q:=T n;have i:D<|E9 c=V:=by show _=_;unfold E9;rw[AE f,Cp rfl];exact n
  rw[n]at v;clear d g n
 rotate_left
 have f:D<|CW c=0:=ke6;obtain⟨V,n⟩:=DF<|E5 c.a.toNat c.e.data.toList;have Q:=T n;have i:D<|E9 c=0:=by show _=_;unfold E9;rw[AE f];rfl
 rw[n]at v;clear d g n
 all_goals
  go_enter func27,ntmps27;have T1:True:=trivial;have T2:True:=trivial;have T3:True:=trivial;have T4:True:=trivial
  go_wp2_with(first
   |(refine CO Z 40 _ Z _ Z _ _ _ _ b.h underlying40 Z (DC P) ?_)
   |(refine F0 Z ?hw Z b.h underlying40 Z (DC P) ?_;case hw=>simp[go_sem];done)
   |(go_at_call 59;refine Ce s ?_;clear s;rintro e w2 ⟨rfl,ab⟩;have h:=T<|b.aq ab;clear b;have b:=h;clear h ab;have k2:A6 w2 (O<|U w) 2<|C Y c.c:=b.cell 2)
   |(go_at_call 60;clear T1;refine Ce (S c.c _) ?_;clear k2;rintro e w3 ⟨rfl,ac⟩;rw[j];have h:=T<|b.aq ac;clear b;have b:=h;clear h ac;have k4:A6 w3 (O<|U w) 4<|C Y c.d:=b.cell 4)
   |(go_at_call 60;clear T2;refine Ce (S c.d _) ?_;clear k4;rintro e w4 ⟨rfl,ad⟩;rw[k];have h:=T<|b.aq ad;clear b;have b:=h;clear h ad;have W:=qpf N (b.ai y).a)
   |(go_at_call 61;refine Ce W ?_;clear W;rintro e w5 ⟨rfl,ae⟩;rw[l];have h:=T<|b.aq ae;clear b;have b:=h;clear h ae;have cT:=qq2 N (b.ai y).a)
   |(go_at_call 62;refine Ce cT ?_;clear cT;rintro e r ⟨rfl,af⟩;rw[m];have h:=T<|b.aq af;clear b;have b:=h;clear h af;have k6:A6 r (O<|U w) 6<|C Y c.f:=b.cell 6;have k7:A6 r (O<|U w) 7<|C Y c.out:=b.cell 7;have k8:A6 r (O<|U w) 8<|C Y c.b:=b.cell 8;have k9:A6 r (O<|U w) 9<|C Y c.bytes:=b.cell 9;have am:A6 r (O<|U w) 10<|G c.i (K c.B) c.g:=b.cell 10;have a:=oh c.g ah (b.ai y).b)
   |(go_at_call 45;clear T3;refine Ce (UP c.f) ?_;rintro e w7 ⟨rfl,rfl⟩;rw[p])
   |(go_at_call 45;clear T4;refine Ce (UP c.out) ?_;rintro e w8 ⟨rfl,rfl⟩;rw[q])
   |(go_at_call 63;refine Ce a ?_;clear a k6 k7 k8 k9 am;rintro e w9 ⟨rfl,ag⟩;rw[u];have h:=T<|b.aq ag;clear b;have b:=h;clear h ag;have cU:=q2y aj w9)
   |(go_at_call 64;refine Ce cU ?_;clear cU;rintro e an ⟨ua,um,uc,rfl,aa⟩;rw[AE Q];have h:=T<|b.aq aa;clear b;have b:=h;clear h aa))
  go_ret2
  exact⟨by rw[AE f,AE i];rfl,b.ac⟩
def LF(c:CF)(a b:AI):AI:=if¬CW c=0 then CW c else if(Dg c.a.toNat a&&Dg c.a.toNat b)=AQ then 7 else 0
def LG(c:CF)(a b:AI):AK:=if¬CW c=0 then AQ else if(Dg c.a.toNat a&&Dg c.a.toNat b)=AQ then AQ else DZ c.a.toNat c.L a.toNat b.toNat
def qtR:bC LF:=λ_ _ _ _=>rfl
def qti:bC LG:=λ_ _ _ _=>rfl
theorem Zg(h:CW c=0):F9 c.a c.L=AP:=by grind [Mg,CW]
theorem Vh(h:Dg n a=AP):a=(a.toNat:I)/\a.toNat<n:=by grind [Dg]
theorem lP(h:¬CW c=0)(a b:J):LG c a b=AQ/\LF c a b=CW c:=by grind [LF,LG]
def Vi(h:CW c=0){b:J}(e:Dg c.a.toNat a=AQ\/Dg c.a.toNat b=AQ):LG c a b=AQ/\LF c a b=7:=by rcases e with d|d<;>simp[LF,LG,h,d]
def lQ(h:CW c=0){b:J}(d:Dg c.a.toNat a=AP)(e:Dg c.a.toNat b=AP):LG c a b=DZ c.a.toNat c.L a.toNat b.toNat/\LF c a b=0:=by simp[LF,LG,h,d,e]
def qtc:bB 31 LG LF:=by
 intro c a b w t P;have V:=T t;have k:=T c.size;have h:=T<|Pr w c;have x:=Vg c _ (h.ai t)<|P.ac h.ac;obtain⟨ad,g⟩:=CC<|LG c a b;obtain⟨ac,f⟩:=CC<|LF c a b;rw[AE g,AE f];go_enter func31,ntmps31
 go_wp2_with(first
  |(refine CO Z 40 _ Z _ Z _ _ _ _ h.h underlying40 Z (DC k) ?_)
  |fail)
 refine Ce x ?_;clear x t P;rintro e w2 ⟨rfl,B⟩;have l:=T<|h.aq B;clear h B;by_cases i:CW c=0
 .obtain⟨Q,u⟩:=Ps<|Zg i;have j:=T u;have p:=T i;have v:c.ad[0]?=H (C Y (c.a.toNat:I)):=by rw[Q];rfl
  have q:=λa aa=>OO v a aa;rw[i];clear i Q u v
  go_wp2_with(first
   |(refine CO Z 40 _ Z _ Z _ _ _ _ l.h underlying40 Z (DC k) ?_)
   |fail)
  refine Ce (q a _) ?_;rintro e w3 ⟨rfl,F⟩;have m:=T<|l.aq F;clear F l;cases r:Dg c.a.toNat a
  .have d:=T<|Vi p (b:=b)<|AF r;go_wp2
   go_ret2
   exact⟨by rw[<-AE f,<-AE g,d.1,d.2];rfl,m.ac⟩
  go_wp2_with(first
   |(refine F0 Z ?hw Z m.h underlying40 Z (DC k) ?_;case hw=>simp[go_sem];done)
   |fail)
  refine Ce (q b _) ?_;rintro e w4 ⟨rfl,L⟩;have o:=T<|m.aq L;clear L m;cases s:Dg c.a.toNat b
  .have d:=T<|Vi p (a:=a)<|AG s;go_wp2
   go_ret2
   exact⟨by rw[<-AE f,<-AE g,d.1,d.2];rfl,o.ac⟩
  have d:=T<|lQ p r s;obtain⟨z,R⟩:=Vh r;obtain⟨A,S⟩:=Vh s;have y:=Wu (arr:=c.ad) (n:=c.a.toNat) j.ai j.f j.hL j.a (b:=b.toNat) R S (o.ai V).a;rw[<-z,<-A]at y;clear z R A S q
  go_wp2_with(first
   |(refine CO Z 40 _ Z _ Z _ _ _ _ o.h underlying40 Z (DC k) ?_)
   |(go_at_call 69;refine Ce y ?_;rintro e w5 ⟨rfl,ab⟩;have W:=T<|o.aq ab))
  go_ret2
  exact⟨by rw[<-AE f,<-AE g,d.1,d.2];rfl,W.ac⟩
 have d:=T<|lP i a b;generalize CW c=E0 at *;generalize E9 c=N at *;go_wp2
 go_ret2
 exact⟨by rw[<-AE f,<-AE g,d.1,d.2];rfl,l.ac⟩
theorem qiX{P:Program}{w:X}{g:I}{t ty:AN}{O:A3}{v:Aq}{fr:I×I}{d:TypeDesc}(e:w.heap[g]?=H (M (O.push v) t fr))(h:P.underlying ty=H d)(k:(match d with|.struct _|.array _ _=>AP|_=>AQ)=AP)(hi:(P.info? ty).map (·.size)=H O.size):(loadVar ty ⟨g,0,Ao⟩).run P w=.ok (.agg O) w:=by
 have a:=VP (P:=P) w ⟨g,0,Ao⟩ O.toList (λj u l=>by
   have b:(⟨g,0,Ao⟩:Addr).add j=⟨g,j,Ao⟩:=by unfold Addr.add;split<;>simp_all
   rw[b,Iz w g j (O.push v) t fr e];grind)
 rcases hq:P.info? ty with _|i
 .simp[hq]at hi
 have f:i.size=O.size:=by simpa[hq]using hi
 have c:(isAgg ty).run P w=.ok AP w:=by unfold isAgg;rw[GU,Mv h w];cases d<;>simp_all
 simp only[Fz,VM]at a;simp[loadVar,GU,c,sizeOf,typeInfo,hq,f,a]
def Zh{P:Program}{ops:Array Oper}{rest:AJ Oper}{o:Oper}{a:Act}{w:X}{Q:Exit->Act->X->Prop}(b:AN){x:Operand}{t:AN}{O:A3}{v:Aq}{fr:I×I}{d:TypeDesc}{g:I}(f:w.heap[g]?=H (M (O.push v) t fr))(k:P.underlying b=H d)(hi:(P.info? b).map (·.size)=H O.size)(h:wpList P ops Q rest (a.put o.dst<|.agg O) w)(e:(match d with|.struct _|.array _ _=>AP|_=>AQ)=AP:=by rfl)(j:o.op=.load b x:=by rfl)(i:Region.wanted o (yielded ops a.tmps)=AP:=by simp[go_sem];done)(hx:a.eval x=A8 g:=by rfl):wpList P ops Q (o::rest) a w :=
 Wj λl c=>by rw[Cp i];unfold Oper.wp execOp;simp only[j,hx,Instr.loadAt,Instr.sureAddr,GU,Gf,G0,qiX f k e hi];exact c _ _ h
theorem q4I:bq 29 CW E9:=by
 intro c w m n;have i:=T c.size;have a:=T<|Pr w c;have k:=US (a.ai m)<|n.ac a.ac;have f:=T<|QJ c;go_enter func29,ntmps29
 go_wp2_with(first
  |(refine CO Z 40 _ Z _ Z _ _ _ _ a.h underlying40 Z (DC i) ?_)
  |fail)
 refine Ce k ?_;rintro e b ⟨A,rfl,h,l⟩;rw[f.1,f.2];have d:=T h;have j:D<|EY.size=A.size:=by grind [Of,h.1]
 have g:=T<|a.aq l
 go_wp2_with(first
  |(refine Ni Z Z Z (O<|U b) Z ?_)
  |(refine D8 Z 126 _ _ Z (O<|U b) A Z Z 126 EY (Cj b) (KX d.1) j d.2.1 ?_;rw[Ge]))
 go_ret2
 exact⟨Z,g.ac.alloc g.ac.size _⟩
theorem q8F:bB 30 LG LF:=by
 intro c a b w hc hg;have HS:=T c.size;have i:=T<|Pr w c;have S:=US (i.ai hc)<|hg.ac i.ac;have t:=T<|QJ c;obtain⟨aj,h⟩:=CC<|LG c a b;obtain⟨ai,g⟩:=CC<|LF c a b;rw[AE h,AE g];go_enter func30,ntmps30
 go_wp2_with(first
  |(refine CO Z 40 _ Z _ Z _ _ _ _ i.h underlying40 Z (DC HS) ?_)
  |fail)
 refine Ce S ?_;clear S hc hg;rintro e f ⟨A,rfl,n,aa⟩;rw[t.1,t.2];have B:=T n.1;have F:=T n.2.1;have P:D<|EY.size=A.size:=by grind [Of]
 have j:=T<|i.aq aa;have l:D<|QL w c (Au<|U f) A<|Az f<|M A 126:=⟨j.ac.alloc j.ac.size _,Ca (CB _ _ _<|Cd j.h) j.h,Cj _⟩
 have o:=n.2.2;rw[t.1]at o;clear n aa i j;by_cases k:CW c=0
 .obtain⟨ad,sa,sk,sc,rfl,_⟩:=o k;obtain⟨hn,p⟩:=Ps ad;have ag:=T p.f;have af:=T p.a;have q:=T k;unfold Ja at *;have s:=T<|DM<|@Dc c.a.toNat<|DY c.a.toNat c.L;have u:=λa W=>ON (Hl c.a.toNat<|DY c.a.toNat c.L).ad a W;have Q:=λa b ha hb W=>aO (Hl c.a.toNat<|DY c.a.toNat c.L) ag (a:=a) (b:=b) ha hb W;rw[k];clear k o hn p ad;generalize Dp c.a.toNat (DY c.a.toNat c.L)=O at *
  go_wp2_with(first
   |(refine Ni Z Z Z (Au<|U f) Z ?_)
   |(refine D8 Z 126 _ _ Z (Au<|U f) (O.push<|G sa sk sc) Z Z 126 EY (Cj f) (KX B) P F ?_;rw[Ge])
   |(refine Zh 123 l.ad underlying123 s ?_)
   |fail)
  refine Ce (u a _) ?_;rintro e w3 ⟨rfl,ab⟩;have m:=T<|l.aq ab;clear ab l;cases v:Dg c.a.toNat a
  .have d:=T<|Vi q (b:=b)<|AF v;go_wp2
   go_ret2
   exact⟨by rw[<-AE g,<-AE h,d.1,d.2];rfl,m.ac⟩
  go_wp2_with(first
   |(refine Zh 123 m.ad underlying123 s ?_)
   |fail)
  refine Ce (u b _) ?_;rintro e w4 ⟨rfl,ac⟩;have r:=T<|m.aq ac;clear ac m;cases x:Dg c.a.toNat b
  .have d:=T<|Vi q (a:=a)<|AG x;go_wp2
   go_ret2
   exact⟨by rw[<-AE g,<-AE h,d.1,d.2];rfl,r.ac⟩
  have d:=T<|lQ q v x;obtain⟨V,y⟩:=Vh v;obtain⟨eb,z⟩:=Vh x;have R:=Q a.toNat b.toNat y z;rw[<-V,<-eb,YO af y z]at R;clear V y eb z Q u
  go_wp2_with(first
   |(refine Zh 123 r.ad underlying123 s ?_)
   |(go_at_call 68;refine Ce (R _) ?_;rintro e w5 ⟨rfl,ah⟩;have ae:=T<|r.aq ah))
  go_ret2
  exact⟨by rw[<-AE g,<-AE h,d.1,d.2];rfl,ae.ac⟩
 have d:=T<|lP k a b;clear o;generalize CW c=E0 at *;generalize E9 c=N at *
 go_wp2_with(first
  |(refine Ni Z Z Z (Au<|U f) Z ?_)
  |(refine D8 Z 126 _ _ Z (Au<|U f) A Z Z 126 EY (Cj f) (KX B) P F ?_;rw[Ge]))
 go_ret2
 exact⟨by rw[<-AE g,<-AE h,d.1,d.2];rfl,l.ac⟩
def FZ(L:AJ<|A1×AK):AJ Aq:=L.flatMap λe=>[Ae ⟨Aw e.1⟩,Ah e.2]
def Gd(L:AJ<|A1×AK):A3:=Aw<|FZ L
theorem QO(L:AJ<|A1×AK):K (FZ L)=K L*2:=by induction L<;>grind [FZ]
theorem Vj(L:AJ<|A1×AK):(Gd L).size=K L*2:=by simp[Gd,QO]
theorem Vk:∀(L:AJ<|A1×AK) (i:I) (h:i<K L),(FZ L)[i*2]?=H (Ae ⟨L[i].1.toArray⟩)/\(FZ L)[i*2+1]?=H (Ah L[i].2)
 |[],i,h=>BB
 |e::L,0,_=>⟨rfl,rfl⟩
 |e::L,i+1,h=>by have a:=Vk L i Bu;grind [FZ]
theorem Pw(h:i<K L):(Gd L)[i*2]?=H (Ae ⟨L[i].1.toArray⟩)/\(Gd L)[i*2+1]?=H (Ah L[i].2):=by grind [Gd,Vk]
theorem qui{x:A1}{y:AK}(h:i<K L):Ay (Ay (Gd L) (i*2)<|Ae ⟨Aw x⟩) (i*2+1) (Ah y)=Gd (L.set i (x,y)):=by
 apply OC;intro k;rw[PK,PK];simp only[VD,Vj];have key:k=(k/2)*2\/k=(k/2)*2+1:=E;by_cases a:k/2<K L
 .have b:=Pw a;have c:=Pw (L:=(L.set i (x,y))) Bl;grind
 grind [Vj]
theorem qpv(n:I):madeCells #[.string ByteArray.empty,Ah AQ] (n*2)=Gd (AV n ([],AQ)):=by
 apply OC;intro k;by_cases b:k<n*2
 .have g:=Pw (L:=(AV n (([],AQ):A1×AK))) (i:=(k/2)) B7;simp only[List.getElem_replicate]at g;have key:k=(k/2)*2\/k=(k/2)*2+1:=E;have e:(madeCells #[Value.string ByteArray.empty,Ah AQ]<|n*2)[k]?=H (#[Value.string ByteArray.empty,Ah AQ][k%2]!):=by grind [madeCells]
  rw[e];rcases key with a|a
  .rw[show k%2=0 by omega,a,g.1];rfl
  grind
 grind [size_madeCells,Vj]
theorem lR(A B:AJ<|A1×AK):FZ (A++B)=FZ A++FZ B:=by simp[FZ]
def Zi:∀v,v∈FZ L->v.oneCell'=AP:=by intro v b;simp only[FZ,aA]at b;obtain⟨e,_,a⟩:=b;simp only[IA,Mt,My]at a;rcases a with rfl|rfl<;>rfl
def SI:A1:=[98,101,121,111,110,100]
def GR(k:AH):AJ<|A1×AK:=AV k (SI,AQ)++AV (8-k) ([],AQ)
theorem qsP:GR 0=AV 8 ([],AQ):=rfl
theorem lS(k:I)(h:k<=8):K (GR k)=8:=by simp[GR];omega
def qxf(h:k<8):(GR k).set k (SI,AQ)=GR (k+1):=by have:k=0\/k=1\/k=2\/k=3\/k=4\/k=5\/k=6\/k=7:=E;rcases this with rfl|rfl|rfl|rfl|rfl|rfl|rfl|rfl<;>rfl
def qxP(h:(n+8)*24<=281474976710656)(w:X):(Instr.makeSlice 32 (C Y<|(n:J)+8)<|C Y<|(n:J)+8).run As w=.ok (G (Aa<|O<|U w) (n+8)<|n+8) (Az w<|M (Gd<|AV (n+8) ([],AQ)) 146):=by obtain⟨i,c,a⟩:=Ox.1 (show(prog.info? 146).map (λi=>(i.zero,i.size,i.bytes))=H (H<|Ag #[.string ByteArray.empty,Ah AQ],2,24) by kernel_rfl);simp only[LP]at a;obtain⟨f,d,b⟩:=a;have:=T9 (P:=As) w 32 146 i _ underlying32 c f Y Y ((n:J)+8) ((n:J)+8) E (OI _) kfN E;rw[this,d];have e:((n:J)+8).toNat=n+8:=E;rw[e];show Result.ok _ (Az w<|M (madeCells #[.string ByteArray.empty,Ah AQ]<|(n+8)*2) _)=_;rw[qpv]
theorem lT{ea:A4}(h:Gc W ea L):∀a,ea=H a->∀j v,(FZ L)[j]?=H v->AC W (a.add j)=H v:=by intro a d j v e;have f:=(Nu.1 e).1;rw[QO]at f;obtain⟨b,off,c,_,i,k⟩:=h.aq (j/2) E;rw[d]at c;cases c;rw[JB];have g:=Vk L (j/2) E;grind
theorem qq0(L:AJ<|A1×AK):Aw (FZ L++(Gd<|AV (K L+8) ([],AQ)).toList.drop (K<|FZ L))=Gd (L++GR 0):=by
 have e:AV (K L+8) (([],AQ):A1×AK)=AV (K L) ([],AQ)++AV 8 ([],AQ):=by rw[VB]
 grind [Gd,lR,qsP,QO]
structure Px(w:Ap)(E:AJ (A1×AK))(W:Ap):Prop where
 ac:A0 w W
 e:W.heap[Au (Av w)]?=An (Aj (Gd E) 146)
def Px.set{E:AJ<|A1×AK}(h:Px w E W)(i:I)(x:A1)(y:AK)(hi:i<K E):Px w (E.set i (x,y)) (AB (AB W ⟨O<|U w,i*2,Ao⟩<|Ae ⟨Aw x⟩) ⟨O<|U w,i*2+1,Ao⟩<|Ah y) :=
 ⟨(h.ac.setCell (Cr _) _).setCell (Cr _) _,by rw[DX _ _ _ _ _ _<|DX _ _ _ _ _ _ h.e,qui hi]⟩
def qmq(w:X):Ar As 32 #[G Ao 0 0] w λe a=>e=Ak (G Ao 0 0)/\a=w:=by have b:=λw=>Mo (P:=As) w 32 146 Ao 0 0 0 0 underlying32;go_enter func32,ntmps32;go_wp2;go_ret;exact⟨Z,Z⟩
theorem qlJ{ad:Addr}(pc:I)(l:Gc w (H ad) ps)(hb:(K ps+8)*24<=281474976710656):Ar As 32 #[G (H ad) (K ps) pc] w λe t=>e=Ak (G (Aa<|O<|U w) (K ps)<|K ps+8)/\Px w (ps++GR 8) t:=by
 have i:D<|Gc (Az w<|M (Gd<|AV (K ps+8) ([],AQ)) 146) (H ad) ps:=l.ac<|(Cu _ _).alloc (Cr _) _;have s:=qxP hb;have B:=λw=>Mo (P:=As) w 32 146 (H ad) (K ps) pc 0 0 underlying32;have f:D<|(Az w<|M (Gd<|AV (K ps+8) ([],AQ)) 146).heap[O<|U w]?=H (M (Gd<|AV (K ps+8) ([],AQ)) 146):=Cj _;have d:D<|(Az w<|M (Gd<|AV (K ps+8) ([],AQ)) 146).setRow (O<|U w) (Aw<|FZ ps++(Gd<|AV (K ps+8) ([],AQ)).toList.drop (K<|FZ ps))=Az w (M (Gd<|ps++GR 0) 146):=by grind [D,qq0,World.setRow_alloc_new]
 have q:D<|Px w (ps++GR 0)<|Az w<|M (Gd<|ps++GR 0) 146:=⟨(Cu _ _).alloc (Cr _) _,Cj _⟩
 clear l;go_enter func32,ntmps32
 go_wp2_with(first
  |(refine Ww 32 Z Z underlying32 2 B6 (K ps+8) (K ps+8) (K ps) pc Z Z f.out ?hn ?h1 (lT i) ?h2 (Zi) ?_;(case hn=>grind [QO]);(case h1=>(intro r;cases r));(case h2=>grind [QO,Vj]);rw[AE d]))
 clear s f d i;generalize Az w (M (Gd<|ps++GR 0) 146)=W0 at *
 go_loopg[5] 8 (λg x wr=>∃k:I,D (k+g=8)/\x=C Y ((K ps:J)+(k:J))/\D (Px w (ps++GR k) wr))
 grind [D];clear q;obtain⟨k,m,rfl,a⟩:=hrel;obtain _|g:=gk
 .have c:k=8:=AY<|AE m;subst c;go_wp2;go_ret;exact⟨Z,a⟩
 have c:k<8:=AY<|AE m;have A:(K ps:J)+(k:J)<(K ps:J)+8:=E;have b:K ps+k<K (ps++GR k):=by grind [lS]
 obtain⟨n,v⟩:∃n,A6 wr (O<|U w) ((K ps+k)*2) n:=⟨_,Ca (Cc a.e _) (Pw b).1⟩
 obtain⟨o,y⟩:∃o,A6 wr (O<|U w) ((K ps+k)*2+1) o:=⟨_,Ca (Cc a.e _) (Pw b).2⟩
 have z:=λj=>Dy wr (O<|U w) j _ _ a.e;have p:=T b;clear b;have u:D<|Px w (ps++GR (k+1))<|AB (AB wr ⟨O<|U w,(K ps+k)*2,Ao⟩<|Ae ⟨#[98,101,121,111,110,100]⟩) ⟨O<|U w,(K ps+k)*2+1,Ao⟩<|Ah AQ:=by have h:=a.set (K ps+k) SI AQ p;rw[oy,qxf c]at h;exact h
 go_wp2;go_roundg g
 case measure=>omega
 grind
theorem q7P:GR 8=AV 8 (SI,AQ):=rfl
def qmm(v:Aq)(n cap:I)(w:X):Ar As 35 #[v,G Ao n cap] w λe a=>e=Ak (Ah AP)/\a=w:=by have b:=λw=>Mo (P:=As) w 32 146 Ao n cap 0 0 underlying32;go_enter func35,ntmps35;go_wp2;go_ret;exact⟨Z,Z⟩
theorem qko{ad:Addr}(pc:I){BE:I}(F:K ps+8<=9223372036854775807)(m:Gc w (H ad) ps)(j:A7 w BE (Gd<|ps++GR 8) 146):Ar As 35 #[G (Aa BE) (K ps)<|K ps+8,G (H ad) (K ps) pc] w λe B=>e=Ak (Ah AP)/\A0 w B:=by
 have p:=T m;have s:=T j;have q:=T<|(L7.1 j).1;clear m j;have R:=λw=>Mo (P:=As) w 32 146 (H ad) (K ps) pc 0 0 underlying32;have r:D<|K (ps++GR 8)=K ps+8:=by grind [D,lS]
 go_enter func35,ntmps35;go_wp2
 go_loopg[7] (K ps+8) (λg x wr=>∃k:I,D (k+g=K ps+8)/\x=C Y k/\D (A0 w wr))
 case atStart=>grind [D,Below.refl]
 case round =>
  obtain⟨k,n,rfl,a⟩:=hrel;have f:=T<|Ca (Co a _ q) s;obtain _|g:=gk
  .have A:¬(k:J)<K ps+8:=AY<|AE n;go_wp2;go_ret;exact⟨Z,a⟩
  have A:(k:J)<K ps+8:=AY<|AE n;have i:k<K (ps++GR 8):=by rw[AE r];omega
  have h:=Pw i;have c:=Ca (Cc f<|k*2) h.1;have d:=Ca (Cc f<|k*2+1) h.2;have L:=(L7.1 f).1;clear h;by_cases o:k<K ps
  .have z:(k:J)<K ps:=E;obtain⟨b,off,y,N,u,v⟩:=(p.ac a).aq k o;cases y;rw[Ov o]at c d;generalize ps[k]=t at *;obtain⟨key,S⟩:=t;dsimp only at c d u v;clear i;go_wp2
   go_quiet (fail)
   go_wp2;go_roundg g
   case measure=>omega
   case rel=>exact⟨k+1,B9,Bb,Cs (a.alloc a.size _) ⟨rfl,rfl,rfl,Cr _,λ_ _=>rfl⟩⟩
  have z:¬(k:J)<K ps:=E;have l:(ps++GR 8)[k]=(SI,AQ):=by grind [q7P]
  rw[l]at c d;have Q:A6 wr BE (k*2)<|Ae ⟨#[98,101,121,111,110,100]⟩:=c;dsimp only at d;clear l i c;go_wp2
  go_quiet (fail)
  go_wp2;go_roundg g
  case measure=>omega
  case rel=>exact⟨k+1,B9,Bb,Cs (a.alloc a.size _) ⟨rfl,rfl,rfl,Cr _,λ_ _=>rfl⟩⟩
theorem q4l(h:Fq W lo t pa<|ss.map Ku):QN W pa ss:=by
 refine⟨λi g=>?_⟩;rcases h with h|⟨b,off,d,fr,e,j,a,f⟩
 .have:=congrArg List.length h;grind
 have c:=f i (by simpa using g);refine⟨b,off,e,(L7.1 a).1,?_⟩;rw[Iz W b _ d _ fr a,c,List.getElem_map];rfl
theorem Ze.aq(h:Ze W lo v rs):∃a c,v=G a (K rs) c/\SG W a rs:=by
 obtain⟨t,h,f⟩:=h;obtain⟨k,⟨b,d⟩|⟨g,c,j,b,d,l,_,_,_,m⟩⟩:=h
 .exact⟨Ao,0,by rw[b,d],⟨λi e=>E⟩⟩
 refine⟨_,_,b,⟨λi e=>?_⟩⟩;obtain⟨r,s,n,o,p,q⟩:=f.2 i kf8;grind [cell_of_row,SH,q4l]
theorem lU(h:CW c=0):E5 c.a.toNat c.e.data.toList<0:=by grind [QM,Fg]
theorem qye(pc:I)(b:Fa w c)(o:Ho w)(hp:Gc w pa ps):Ar As 34 #[.agg c.ad,G pa (K ps) pc] w λe w'=>e=Ak (Af #[C Y (Kt c ps).1,C Y (Kt c ps).2,C Y<|LD c ps])/\A0 w w':=by
 have p:=T c.size;have x:=T hp;have a:=T<|Pr w c;have m:=Vg c _ (a.ai b)<|o.ac a.ac;clear b o hp;by_cases s:CW c=0
 .have n:=T s;rw[s]at m;clear s;by_cases ak:(4096:J)<K ps
  .have d:D<|LD c ps=7/\Kt c ps=(0,0):=Zb n (by grind [Jb]);go_enter func34,ntmps34
   go_wp2_with(first
    |(refine CO Z 40 _ Z _ Z _ _ _ _ a.h underlying40 Z (DC p) ?_)
    |(go_at_call 27;refine Ce m ?_;clear m;rintro e w2 ⟨rfl,j⟩;have f:=T<|a.aq j;clear a;have a:=f;clear f j))
   go_ret3
   rw[d.1,d.2];exact⟨Z,a.ac⟩
  have ah:K ps<=4096:=B5;have q:D<|Jb ps=ps.all GP:=by grind [D,Jb]
  go_enter func34,ntmps34
  go_wp2_with(first
   |(refine CO Z 40 _ Z _ Z _ _ _ _ a.h underlying40 Z (DC p) ?_)
   |(go_at_call 27;refine Ce m ?_;clear m;rintro e w2 ⟨rfl,j⟩;have f:=T<|a.aq j;clear a;have a:=f;clear f j))
  go_loopg[9] (K ps) (λg z ae=>∃k:I,z=C Y k/\D (k+g=K ps)/\D (Nh w c ae)/\D (ps.all GP=(ps.drop k).all GP))
  grind [D];clear a;obtain⟨k,rfl,o,l,v⟩:=hrel;obtain _|g:=gk
  .have ag:¬(k:J)<(K ps:J):=AY<|AE o;have d:=T (lM n<|by rw[AE q,AE v,Oy<|AY<|AE o];rfl);have V:=(Ps<|Zg n).1.symm;have P:=Zf V (w:=wr);have F:=T<|lU n;have B:=Z6<|QM n;have y:=T B.1;have A:D (∀i (h:i<K (Ea c.e.data.toList)),(Ea c.e.data.toList)[i].1.length<=1000):=λi h=>B9;clear B q v V
   go_wp2_with(first
    |(refine CO Z 40 _ Z _ Z _ _ _ _ l.h underlying40 Z (DC p) ?_)
    |fail)
   refine Ce P ?_;clear P;rintro e w3 ⟨ra,rm,rc,rfl,Q,S⟩;obtain⟨a',aj,he,W⟩:=(S F).aq;injection he with he1 he2 he3;subst he1;subst he2;subst he3;have u:=T<|l.aq Q;have L:=lO c.ad c.c Z rc pc W (x.ac u.ac) ah (AY<|AE y) A;have ab:=T d.1;have ac:=T d.2;clear d S W Q l y A F;generalize Dz c.c ((Ea c.e.data.toList).map DV) ps=z at *;generalize E5 c.a.toNat c.e.data.toList=rv at *
   go_wp2_with(first
    |(refine CO Z 40 _ Z _ Z _ _ _ _ u.h underlying40 Z (DC p) ?_)
    |(go_at_call 73;refine Ce L ?_;clear L;rintro e w4 ⟨rfl,R⟩;have aa:=T<|u.aq R;clear R))
   go_ret3
   rw[AE ab,AE ac];exact⟨Z,aa.ac⟩
  have af:k<K ps:=AY<|AE o;have ag:(k:J)<(K ps:J):=B5;obtain⟨ai,off,rfl,hb,e0,e1⟩:=(x.ac l.ac).aq k af;have r:D<|ps.all GP=(GP ps[k]&&(ps.drop<|k+1).all GP):=BT;clear v;generalize ps[k]=t at *;obtain⟨key,ix⟩:=t;cases ix
  .go_wp2;go_roundg g;exact⟨k+1,Bb,B9,l,by have h:=AE r;exact h⟩;omega
  cases hk:key.isEmpty
  .have d:=T (Zb n<|by rw[AE q,AE r];grind [GP]);clear r q;go_wp2
   go_ret3
   rw[d.1,d.2];exact⟨Z,l.ac⟩
  have ad:D<|ps.all GP=(ps.drop<|k+1).all GP:=by grind [GP]
  clear r;go_wp2;go_roundg g;exact⟨k+1,Bb,B9,l,ad⟩;omega
 have d:=T<|lL s ps;generalize CW c=E at *;generalize E9 c=N at *;go_enter func34,ntmps34
 go_wp2_with(first
  |(refine CO Z 40 _ Z _ Z _ _ _ _ a.h underlying40 Z (DC p) ?_)
  |(go_at_call 27;refine Ce m ?_;clear m;rintro e w2 ⟨rfl,j⟩;have f:=T<|a.aq j;clear a;have a:=f;clear f j))
 go_ret3
 rw[d.1,d.2];exact⟨Z,a.ac⟩
def qtJ(c:CF)(w:X)(ps:AJ<|A1×AK):LD (c.ai w) ps=LD c ps:=rfl
def qtv(c:CF)(w:X)(ps:AJ<|A1×AK):Kt (c.ai w) ps=Kt c ps:=rfl
structure L0(w:Ap)(o:FR)(ps:AJ (A1×AK)):Prop where
 len:o.e=At ps
 aq:Gc w o.g ps
 none_:o.g=Ao->o.e=0/\o.h=0
 q:∀i (h:i<At ps),ps[i].1.length<=maxLen
 bytes:(At ps+8)*24<=281474976710656
def L0.ac(h:L0 w o ps)(hb:A0 w w'):L0 w' o ps:={h with aq:=h.aq.ac hb}
def Py(pp:A4)(ps:AJ<|A1×AK)(pa:A4)(pc:AH)(W:Ap):Prop:=pp=Ao/\pa=Ao/\pc=0/\ps=[]\/∃N,pp≠Ao/\pa=Aa N/\pc=At ps+8/\W.heap[N]?=An (Aj (Gd<|ps++GR 8) 146)
theorem Py.next(h:Py pp ps pa pc W)(hb:A0 W V):Py pp ps pa pc V :=
 h.imp id λ⟨N,b,c,d,a⟩=>⟨N,b,c,d,Ca (Co hb _<|Cd a) a⟩
def Py.path(h:Py pp ps pa pc W):Gc W pa ps:=by
 rcases h with⟨_,_,_,rfl⟩|⟨N,_,rfl,_,h⟩
 .exact⟨λi h=>absurd h<|Nat.not_lt_zero i⟩
 refine⟨λi a=>?_⟩;have g:=Pw (L:=ps++GR 8) (i:=i) (by rw[Dj];omega);rw[Ov a]at g;exact⟨N,0,Z,Cd h,by rw[Gg];exact Ca (Cc h _) g.1,by rw[Gg];exact Ca (Cc h _) g.2⟩
def qos(h:L0 w o ps):Ar As 32 #[G o.g o.e o.h] w λe b=>∃c d,e=Ak (G c (K ps) d)/\A0 w b/\Py o.g ps c d b:=by
 rcases hp:o.g with _|g
 .obtain⟨a,f⟩:=h.none_ hp;obtain rfl:ps=[]:=List.length_eq_zero_iff.1<|Ca h.len.symm a;rw[a,f];refine Ce (qmq w) ?_;rintro e b ⟨rfl,rfl⟩;exact⟨Ao,0,Z,Cu _ _,AF ⟨Z,Z,Z,Z⟩⟩
 rw[h.len];refine Ce (qlJ o.h (hp▸h.aq) h.bytes) ?_;rintro e b ⟨rfl,a⟩;exact⟨_,_,Z,a.ac,AG ⟨_,nofun,Z,Z,a.e⟩⟩
def ql9(h:L0 w o ps)(f:Py o.g ps pa pc w):Ar As 35 #[G pa (K ps) pc,G o.g o.e o.h] w λe c=>e=Ak (Ah AP)/\A0 w c:=by
 rcases f with⟨a,_⟩|⟨N,a,rfl,rfl,d⟩
 .rw[a];refine Ce (qmm _ _ _ w) ?_;rintro e c ⟨rfl,rfl⟩;exact⟨Z,Cu _ _⟩
 obtain⟨g,b⟩:=Option.ne_none_iff_exists'.1 a;rw[b,h.len];exact qko o.h (AY h.bytes) (b▸h.aq) d
theorem qws(p:o.f=1\/o.f=2\/o.f=3)(hc:Fa w c)(hg:Ho w)(hp:L0 w o ps):Ar As 13 #[.agg c.ad,.agg o.ad] w λe w'=>e=Ak (Ah AP)/\A0 w w':=by
 have HG:=T hg;have r:=T hp;have W:=T c.size;have aa:D<|Fa (Az (Az w<|M c.ad 40)<|M o.ad 34) c:=oX hc;have X0:D<|(Az (Az w _)<|M o.ad 34).heap[O<|U w]?=H (M c.ad 40):=Ca (CB _ _ _ Ba)<|Cj _;have F:=bu aa;clear hc hg hp;obtain⟨f,P⟩:=IB<|Az (Az w<|M c.ad 40)<|M o.ad 34;have R:=T P;rw[<-P]at F;have af:D<|A7 f (O<|U w) c.ad 40:=B9;have ad:D (∀g,PX f g (c.L++Ej 8) (c.B++F3 8)->Rk w (Az g<|M (c.ai f).ad 40) c o.ad (O<|U g) f):=by grind [D,oW]
 have q:D<|Fa f c:=B9;have u:D<|Ho f:=by rw[AE R];exact HG.ac<|(Cm).alloc Ba _
 have A:=T<|(c.ai f).size;have ae:=T<|(c.ai f).aq;clear P aa X0;go_enter func13,ntmps13
 go_wp2_with(first
  |(refine CO Z 40 _ Z _ Z _ _ _ _ af underlying40 Z (DC W) ?_)
  |(refine bz R ?_)
  |fail)
 apply F.mono;clear F;rintro e g ⟨rfl,x⟩;have a:=T<|ad g x;have y:=T<|bo q x;have z:=T<|u.ac x.ac;have l:D<|Below _ g<|Az g<|M (c.ai f).ad 40:=Cm;have t:D (∀V:X,A7 V (O (U w)+1) o.ad 34->A6 V (O (U w)+1) 2 (C Y o.b)/\A6 V (O (U w)+1) 3 (C Y o.c)/\A6 V (O (U w)+1) 6 (G o.g o.e o.h)):=λV h=>⟨Cc h 2,Cc h 3,Cc h 6⟩
 obtain⟨i,j,k⟩:=t.out _ a.op;have h0:=Cc a.op 0;clear x;rcases p with p|p|p
 case' inl =>
  have d:=q4I _ _ (y.ac l)<|z.ac l;rw[qt9,qtP]at d;have S:=T λV h=>Vg c V (q.ac h)<|u.ac h
 case' inr.inl =>
  have d:=q8F _ o.b o.c _ (y.ac l)<|z.ac l;rw[qtR,qti]at d;have S:=T λV h=>qtc c o.b o.c V (q.ac h)<|u.ac h
 case' inr.inr =>
  have d:=qos<|r.ac a.ac
 all_goals
  have ok:o.ad[0]?=H (C Y o.f):=rfl;rw[p]at ok;have ac:=Ca h0 ok;clear h0 ok p
  go_wp2_with(first
   |(refine Wx Z Z Z (O<|U g) Z ?_)
   |(refine D8 Z 40 _ _ Z (O<|U g) (c.ai f).ad Z Z 40 FQ (Cj g) (DC A) (PY A) ae ?_;rw[Ge])
   |(refine CO Z 40 _ Z _ Z _ _ _ _ a.h underlying40 Z (DC W) ?_)
   |(refine CO Z 40 _ Z _ Z _ _ _ _ a.ai underlying40 Z (DC A) ?_)
   |((first|go_at_call 29|go_at_call 30);refine Ce d ?_;clear d ac i j k;rintro e w3 ⟨rfl,n⟩;have a:=T<|a.aq n;obtain⟨i,j,k⟩:=t.out _ a.op;have m:=S.out w3 a.ad)
   |(go_at_call 32;refine Ce d ?_;clear d ac i j k;rintro e w3 ⟨pa,pc,rfl,n,Q⟩;have a:=T<|a.aq n;have s:=T Q;have d:=qtd pc ((y.ac l).ac n) ((z.ac l).ac n) Q.path r.q;rw[qtv,qtJ]at d;clear n Q)
   |(go_at_call 33;refine Ce d ?_;clear d;rintro e w4 ⟨rfl,v⟩;have a:=T<|a.aq v;have s:=T<|s.next v;obtain⟨i,j,k⟩:=t.out _ a.op;have m:=qye o.h (q.ac a.ad) (u.ac a.ad) (r.ac a.ac).aq;rw[<-r.len]at m)
   |((first|go_at_call 27|go_at_call 31);refine Ce m ?_;clear m i j k;rintro e w4 ⟨rfl,v⟩;have a:=T<|a.aq v)
   |(go_at_call 34;refine Ce m ?_;clear m i j k;rintro e w5 ⟨rfl,N⟩;have a:=T<|a.aq N;have s:=T<|s.next N;obtain⟨i,j,k⟩:=t.out _ a.op;clear N)
   |(go_at_call 35;refine Ce (ql9 (r.ac a.ac) s) ?_;clear i j k;rintro e w6 ⟨rfl,ab⟩;have a:=T<|a.aq ab;clear ab)
   |(go_at_call 28;refine Ce (bw q a.ad a.e a.b) ?_;rintro e w7 ⟨rfl,ag,_⟩))
  go_ret;exact⟨Z,Cs a.ac<|CG ag<|by grind [D,a.d]⟩
def QV(c:CF)(A:AH)(bv:Aq):A3:=#[Ab Al c.f,Ab Al c.out,Ab Al c.b,Ab Al c.bytes]++(Dp c.a.toNat (DY c.a.toNat c.L)++#[Ab Al c.d,Ab Al c.key,A8 A])++#[bv,Ac Ao 0 0,Ah AQ]
def GT(c:CF):AJ<|AJ (AH×A1)×AI×AI:=(Ea c.e.data.toList).map DV
theorem qsK{a:A4}{B:AJ J}(h:G4 w a B)(t:a=Ao->K B=0/\cap=0)(z:K B<=8):Ar As 58 #[G a (K B) cap] w λe c=>∃d f,e=Ak (G d (K B) f)/\DQ c 3 1 (λg=>O (U w)<=g/\g<O (U c)) (G d (K B) f) (K B) (B.map<|Value.int Y)/\A0 w c:=by
 have N:∀{c:X} {v:Aq} {n:I} {l:AJ Aq},c.ownsRow (O<|U w) 3 1 v n l->∃d f,v=G d n f/\DQ c 3 1 (λg=>O (U w)<=g/\g<O (U c)) (G d n f) n l:=by
  rintro c v n l ⟨m,s⟩;rcases s with⟨rfl,rfl⟩|⟨g,cap,q,rfl,u,o,x⟩
  .exact⟨Ao,0,Z,m,AF ⟨Z,Z⟩⟩
  exact⟨_,_,Z,m,AG ⟨g,cap,q,Z,⟨u,(Cd o)⟩,o,x⟩⟩
 obtain _|p:=a
 .obtain⟨i,y⟩:=t rfl;refine(Tryz.slices_Clone_int_nil (K B) cap w).mono ?_;rintro e c ⟨rfl,rfl⟩;have k:=R0 i;subst k;exact⟨Ao,0,Z,⟨Z,AF ⟨Z,Z⟩⟩,Cu _ _⟩
 by_cases r:K B=0
 .have k:=R0 r;subst k;refine(Tryz.slices_Clone_int_zero p cap w).mono ?_;grind
 obtain⟨b,off,i,L,A⟩:=h.aq 0 E;injection i with i;subst i;refine(Tryz.slices_Clone_int b off (K B) cap B w (Cr _) E λj F=>?_).mono ?_
 .grind
 grind
structure Oq(c:CF)(W0:Ap)(L A:AH)(q:D0)(sts:AJ ((AH->AH)×AI×AI))(sa:A4)(sc:AH)(nf mf:Lit->Option AH)(bv:Aq)(V:Ap):Prop where
 a:Z4 W0 (GT c) c.c A q sts sa sc nf mf V
 d:DQ V 3 1 (λg=>Au (Av W0)<=g/\g<L) bv (At c.B) (c.B.map (Value.int Al))
 e:∃ba bc,bv=Ac ba (At c.B) bc
def mT(c:CF)(w:Ap)(e:Ending)(w':Ap):Prop :=
 A0 w w'/\((¬CW c=0/\e=Ak (Af #[.pointer Ao,Ab Al<|CW c]))\/(CW c=0/\∃W0 L A q sts sa sc nf mf bv,e=Ak (Af #[A8 L,Ab Al 0])/\Au (Av w)<=Au (Av W0)/\Au (Av W0)<=L/\Au (Av w')=L+1/\w'.heap[L]?=An (Aj (QV c A bv) 135)/\(∃lo rc,Au (Av w)<=lo/\KZ W0 lo (Ac q.h (At<|GT c) rc) (GT c))/\Oq c W0 L A q sts sa sc nf mf bv w'))
def q97{O:A3}{a:A4}(h:A=Ja O a k cap)(d:O.size=37):∀(j:I) (u:Aq),O[j]?=H u->A[j]?=H u:=by intro j u b;have c:j<37:=AY<|Cd b;rw[h];unfold Ja;rw[ag,Cl E];exact b
def q6G{m:I->I->AK}:(prog.info? 123).map (·.size)=H (Dp n m).size:=by rw[Dc];kernel_rfl
theorem q0W(hc:Fa w c)(r:Ho w)(bb:CW c=0->K c.B<=8):Ar As 26 #[.agg c.ad] w<|mT c w:=by
 have HS:=T c.size;have HC:=T hc;have ah:=T bb;have z:=T<|Pr w c;have cR:=US (z.ai hc)<|r.ac z.ac;have g:=T<|QJ c;go_enter func26,ntmps26
 go_wp2_with(first
  |(refine CO Z 40 _ Z _ Z _ _ _ _ z.h underlying40 Z (DC HS) ?_)
  |fail)
 refine cR.mono ?_;rintro am f ⟨A,rfl,q,a8⟩;rw[g.1,g.2];have ae:=T q.1;have af:=T q.2.1;have HZ:D<|EY.size=A.size:=by grind [Of]
 have F:=T<|z.aq a8;have y:D<|QL w c (O<|U f) A<|Az f<|M A 126:=⟨F.ac.alloc F.ac.size _,(CB _ _ _<|Cd F.h).trans F.h,Cj _⟩
 have e:=q.2.2;rw[g.1]at e;by_cases m:CW c=0
 .obtain⟨_,v,sk,x,u,lo,aq,ab⟩:=e m;obtain⟨ra,rc,bg,ap⟩:=ab.ac;injection bg with e1 e2 e3;subst e1;subst e2;subst e3;have a7:A[37]?=H (G v (K<|GT c) x):=by rw[u];unfold Ja;rw[ag,Dc];rfl
  have bj:=T<|q97 u<|Dc;have aj:D<|O (U w)<=lo/\KZ { (Az f<|M A 126)with drawn:=(Az f<|M A 126).drawn+1} lo (G v (K<|GT c) x) (GT c):=⟨CE Ba aq,ab.kept λbk _ h=>CB _ _ _ h⟩
  have a0:D<|J8 (Az f<|M A 126) v<|GT c:=ap.ac Cm;have a4:=UX<|QM m;have ax:=T<|ah m;have ar:=T m;clear u e ab ap ah aq;rw[m];obtain⟨hn,h8,be⟩:=a4;have ay:D<|K (GT c)<=16:=hn;have H8:D (∀i (h:i<K (GT c)),(GT c)[i].1.length<=8):=h8;have aw:D (∀i (h:i<K (GT c)) j (h2:j<(GT c)[i].1.length),(GT c)[i].1[j].1<=3/\(GT c)[i].1[j].2.length<=1000000000):=be
  go_wp2_with(first
   |(refine Ni Z Z Z (O<|U f) Z ?_)
   |(refine D8 Z 126 _ _ Z (O<|U f) A Z Z 126 EY (Cj f) (KX ae) HZ af ?_;rw[Ge]))
  have d:(λa:X=>A7 a (O<|U w) c.ad 40/\A7 a (O<|U f) A 126) { (Az f<|M A 126)with drawn:=(Az f<|M A 126).drawn+1}:=⟨y.h,y.ad⟩
  refine Ei (S:=λa=>A7 a (O<|U w) c.ad 40/\A7 a (O<|U f) A 126) B6 ?_;have V:D<|A0 w { (Az f<|M A 126)with drawn:=(Az f<|M A 126).drawn+1}:=y.ac.drew;have a1:D<|J8 { (Az f<|M A 126)with drawn:=(Az f<|M A 126).drawn+1} v<|GT c:=a0.ac (Cu _ _).drew;generalize({ (Az f<|M A 126)with drawn:=(Az f<|M A 126).drawn+1}:X)=W4 at *;generalize O (U f)=N4 at *;have az:D (∀a:X,A7 a N4 A 126->∀(j:I) (ad:Aq),(Dp c.a.toNat<|DY c.a.toNat c.L)[j]?=H ad->A6 a N4 (0+j) ad):=λa k j ad hu=>by grind [D,Cc]
  refine Cb 0 16 (A9 (O<|U w) 6) d <| Ch 1 17 (C Y c.f) Z (λa k=>by have l:A6 a (O<|U w) 6<|C Y c.f:=Cc k.1 6;go_simp) d ?_;refine Cb 2 18 (A9 (O<|U w) 7) d <| Ch 3 19 (C Y c.out) Z (λa k=>by have l:A6 a (O<|U w) 7<|C Y c.out:=Cc k.1 7;go_simp) d ?_;refine Cb 4 20 (A9 (O<|U w) 8) d <| Ch 5 21 (C Y c.b) Z (λa k=>by have l:A6 a (O<|U w) 8<|C Y c.b:=Cc k.1 8;go_simp) d ?_;refine Cb 6 22 (A9 (O<|U w) 9) d <| Ch 7 23 (C Y c.bytes) Z (λa k=>by have l:A6 a (O<|U w) 9<|C Y c.bytes:=Cc k.1 9;go_simp) d ?_;refine Cb 8 24 (Ag #[C Y c.b,C Y c.bytes]) d <| Cb 9 25 (A8 N4) d <| Ch 10 26 (.agg<|Dp c.a.toNat<|DY c.a.toNat c.L) Z (λa k=>by exact Oe (.tmp 25) B6 B6 (az a k.2) underlying123 B6<|q6G) d <| Cb 11 27 (A9 (O<|U w) 4) d <| Ch 12 28 (C Y c.d) Z (λa k=>by have l:A6 a (O<|U w) 4<|C Y c.d:=Cc k.1 4;go_simp) d ?_;refine Cb 13 29 (A9 (O<|U w) 5) d <| Ch 14 30 (C Y c.key) Z (λa k=>by have l:A6 a (O<|U w) 5<|C Y c.key:=Cc k.1 5;go_simp) d ?_;refine Cb 15 31 (A9 N4 37) d <| Ch 16 32 (G v (K<|GT c) x) Z (λa k=>by have l:=(Cc k.2 37).trans a7;go_simp) d <| Cb 17 33 (A9 (O<|U w) 2) d <| Ch 18 34 (C Y c.c) rfl (λa k=>by have l:A6 a (O<|U w) 2<|C Y c.c:=Cc k.1 2;go_simp) d ?_;refine Cb 21 37 (A9 (O<|U w) 10) d <| Ch 22 38 (G c.i (K c.B) c.g) Z (λa k=>by have l:A6 a (O<|U w) 10<|G c.i (K c.B) c.g:=Cc k.1 10;go_simp) d ?_;refine CH 19 λal t=>?_;go_simp;refine(lu x c.c a1 ay H8 aw).mono ?_;rintro am w5 ⟨s,bh,bi,ta,tc,nf,mf,rfl,bf,ao⟩;have a2:=T bf;simp only[];have R:=ao.a.ac;have ai:=T ao;have W:=T<|V.trans<|R.mono V.size;have o:(λa:X=>A7 a (O<|U w) c.ad 40/\A7 a N4 A 126) w5:=⟨(R.block _<|Cd d.1).trans d.1,(R.block _<|Cd d.2).trans d.2⟩
  have a5:=T V.size;have ak:=T R.size;refine t.out _ _ o λ_=>?_;refine Cb 20 36 (.agg<|Dp c.a.toNat (DY c.a.toNat c.L)++#[C Y c.d,C Y c.key,A8 s]) o <| CH 23 λal t=>?_;go_simp;refine(qsK ((HC.ac W).b) HC.bn ax).mono ?_;rintro am n ⟨P,Q,rfl,bd,aa⟩;simp only[];have p:(λa:X=>A7 a (O<|U w) c.ad 40/\A7 a N4 A 126) n:=⟨(aa.block _<|Cd o.1).trans o.1,(aa.block _<|Cd o.2).trans o.2⟩
  have a3:=T bd;have b:=T aa;refine t.out _ _ p λ_=>?_;refine Cb 24 40 (.agg<|QV c s<|G P (K c.B) Q) p <| CH 25 λal t=>?_;go_simp;have ac:(λa:X=>A7 a (O<|U w) c.ad 40/\A7 a N4 A 126)<|Az n<|M (QV c s<|G P (K c.B) Q) 135:=⟨(CB _ _ _<|Cd p.1).trans p.1,(CB _ _ _<|Cd p.2).trans p.2⟩
  refine t.out _ _ ac λ_=>?_;refine Cb 26 2 (A8<|O<|U n) ac <| Cb 27 3 (C Y 0) ac <| CK ?_;go_simp;go_wp2
  go_ret2
  have a9:A0 n<|Az n<|M (QV c s<|G P (K c.B) Q) 135:=Cm;have an:=b.trans<|a9.mono b.size;refine⟨W.trans<|an.mono W.size,AG ⟨ar,W4,O<|U n,s,bh,bi,ta,tc,nf,mf,G P (K c.B) Q,Z,a5,CE ak b.size,CL _ _,Cj n,⟨lo,x,aj.1,by rw[AE a2];exact aj.2⟩,⟨{AE ai with a:=ai.a.next an},?_,_,_,rfl⟩⟩⟩;exact a3.same (λa6 r=>⟨CE ak r.1,r.2⟩) λa6 r=>CB _ _ _ r.2
 have HE:=T m;have av:D<|mT c w (Ak<|Af #[.pointer Ao,C Y<|CW c])<|Az f<|M A 126:=⟨y.ac,AF ⟨m,Z⟩⟩
 generalize CW c=E at *;generalize E9 c=N at *;have hE:(E==0)=AQ:=by simpa using HE.out
 go_wp2_with(first
  |(refine Ni Z Z Z (O<|U f) Z ?_)
  |(refine D8 Z 126 _ _ Z (O<|U f) A Z Z 126 EY (Cj f) (KX ae) HZ af ?_;rw[Ge]))
 go_ret2
 exact av
theorem ZC{dflt:J}(a:∃l:I,dflt=l/\l<n):∀(rs:AJ<|AJ (I×A1)×J×J),(∀x∈rs,∃l:I,x.2.1=l/\l<n)->∀p,∃l:I,(Dz dflt rs p).1=l/\l<n
 |[],_,_=>a
 |x::rs,hr,p=>by
  rw[Dz];split
  .grind [List.mem_cons_self]
  exact ZC a rs (λy b=>hr y<|LM _ b) p
end
end Go.Proofs.YtaehkdnabiccnaaGreatDoor


