import Derived.Lib.BufferWrite
import Derived.Test.YtaehkdnabiccnaaGreatDoorGq02
import Derived.Test.YtaehkdnabiccnaaGreatDoorGq01
set_option maxRecDepth 100000
set_option maxHeartbeats 8000000
set_option linter.all false
namespace Go.Proofs.YtaehkdnabiccnaaGreatDoor
open Go.Proofs.Tryz
open _root_ renaming Nat->I,Int->J
open Go.Value renaming int->C,slice->G
open Go.World renaming heap->U
open _root_.Array renaming size->O
open _root_.List renaming length->K
open Go.IntKind renaming i64->Y
open Go.RowKit renaming Hid->D
open Go renaming World->X
open Option renaming some->H
open Go.Obj renaming cells->M
open Go.Value renaming slice->AX,int->Ab,slice->Ac,pointer->Ad,string->Ae,tuple->Af,agg->Ag,bool->Ah,ownBlock->Ax
open Go.Obj renaming cells->Aj
open Go.Ending renaming returned->Ak
open Go.IntKind renaming i64->Al,u8->Am
open Option renaming some->An,none->Ao
open Go renaming DataW->AM,TypeId->AN,undef->AO,World->Ap,Value->Aq,Calls->Ar
open Go.Proofs.Tryz renaming prog->As
open _root_.List renaming replicate->AV,length->At,toArray->Aw
open _root_.Array renaming size->Au,setIfInBounds->Ay
open Go.World renaming setCell->AB,cell?->AC,setRow->AD,heap->Av,alloc->Az
open Go.RowKit.Hid renaming out->AE
open Or renaming inl->AF,inr->AG
open _root_ renaming Nat->AH,Int->AI,List->AJ,Bool->AK,Except->AS,ByteArray->AT,UInt8->AU
open _root_.Bool renaming true->AP,false->AQ
open _root_.Decidable renaming decide->AR
variable{P:Program}{a d depth dp fm kd l lim q z:J}{B N S b b0 base bytes cap fuel g g2 i j k last lcap lo n num p p1 p3 pc so x:I}{V V' W W' w' w2 w5 wr:X}{ops:Array Oper}{rest:AJ Oper}{o o1 o2:Obj}{Q:Exit->Act->X->Prop}{t ty:AN}{A arr cur tmps y:A3}{c:AU}{cv gv kv kx lv u ux v v':Aq}{e:Ending}{vs xs:AJ Aq}{m:AK}{ad:Addr}{ex:I->Prop}{R r:AS (J×J) (AM Unit×I)}{bs:A1}{f:I->AK}{F:J×J}{ds ds':AJ (AM Unit)}{L ps:AJ (A1×AK)}{o0:Option I}{la pa pp ra:A4}{mc:I->I}{fn:Func}{md:Region.Mode}{kl kl' ss:AJ A1}{rd:I->AS (J×J) (AM Unit×I)}{rs:AJ (AJ A1×J×J)}
section
open Go.RowKit Go.Lib Go.RowKit Go.Shelf Go.RowKit Go.RowKit Go.Deep
def cr{z:Aq}:(madeCells #[z] n).size=n:=by simp[madeCells]
def qx(n:I)(h:n+8<=281474976710656)(w:X):(Instr.makeSlice 50 (C Y<|(n:J)+8)<|C Y<|(n:J)+8).run As w=.ok (G (Aa<|O<|U w) (n+8)<|n+8) (Az w<|M (madeCells #[C Am 0]<|n+8) 5):=by obtain⟨i,b,d,c,a⟩:=DL Tryz.infoU8;have:=T8 w 50 5 i _ underlying50 b d Y Y _ (n+8) E (OH _) kfX E;rw[this,c];have e:((n:J)+8).toNat=n+8:=E;rw[e,T0];rfl
def qy{w:X}{o:Oper}{a:Act}{d s:Operand}{dT:AN}(i:AN)(p:o.op=.call {callee:=.builtin .copy,args:=#[d,s],argTypes:=#[dT,i]})(m:o.guard=Ao){elem:AN}(u:P.underlying dT=H (.slice elem))(r:(P.info? elem).map (·.size)=H 1)(c e:I)(b:AT)(k:a.eval d=G (Aa g) c e)(q:a.eval s=.string b)(l:w.heap[g]?=H (M cur t (0,0)))(n:b.size<=c)(x:b.size<=cur.size)(h:wpList P ops Q rest (a.put o.dst<|goInt b.size)<|AD w g<|Aw<|byteCells b.data.toList++cur.toList.drop b.size):wpList P ops Q (o::rest) a w:=by refine LP m λv j=>?_;have f:=run_copy_row_string w dT i o.type elem g 0 c e b cur t u r l n E;simp only[Gf,ST,K9]at f;unfold Oper.wp;simp[execOp,p,resolve,invoke,builtin,k,q,f,Result.andThen];exact j _ _ h
def Jh:A1:=AV 8 77
def IL(l:A1):A3:=Aw<|l.map CP
theorem cu(l:A1):(IL l).size=K l:=by simp[IL]
theorem Rt(l:A1)(j:I):(IL l)[j]?=l[j]?.map CP:=by simp[IL]
def qz{s:A1}(b:cur.size=K s+8):(Aw<|byteCells s++cur.toList.drop (K s)).size=K s+8/\∀j,j<K s->(Aw<|byteCells s++cur.toList.drop (K s))[j]?=(IL<|s++Jh)[j]?:=by
 have a:K (byteCells s)=K s:=by simp[byteCells]
 refine⟨by simp[a];omega,λj c=>?_⟩;rw[Rt,Hg E,VG,Hg E];simp[byteCells];rfl
theorem qA{l:A1}(d:cur.size=K l)(b:k<K l)(a:l[k]?=H c)(h:∀j,j<k->cur[j]?=(IL l)[j]?):(Ay cur k<|CP c).size=K l/\∀j,j<k+1->(Ay cur k<|CP c)[j]?=(IL l)[j]?:=by grind [Rt]
theorem qC{l:A1}(a:cur.size=K l)(h:∀j,j<K l->cur[j]?=(IL l)[j]?):cur=IL l:=by grind [cu]
theorem cw(W:X){s:A1}(S:K s<=200000000):Ar As 18 #[Ae ⟨Aw s⟩] W λe l=>e=Ak (G (Aa<|O<|U W) (K s)<|K s+8)/\A7 l (O<|U W) (IL<|s++Jh) 5/\A0 W l:=by
 have f:(⟨Aw s⟩:AT).size=K s:=by simp[ByteArray.size]
 have R:=λw=>qx (K s) E w;have m:=qz (s:=s) (cur:=(madeCells #[C Am 0]<|K s+8))<|cr;have u:K (s++Jh)=K s+8:=by simp[Jh]
 obtain⟨b,n⟩:=IA<|Aw<|byteCells s++(madeCells #[C Am 0]<|K s+8).toList.drop (K s);rw[<-n]at m;have y:D<|A0 W<|(Az W<|M (madeCells #[C Am 0]<|K s+8) 5).setRow (O<|U W) b:=Dq Cm<|Cr _;have A:D<|((Az W<|M (madeCells #[C Am 0]<|K s+8) 5).setRow (O<|U W) b).heap[O<|U W]?=H (M b 5):=CR _ _ _ _ _ _<|Cj _;have B:=T m;go_enter func18,ntmps18
 go_wp2_with(first
  |(refine qy (dT:=50) 9 Z Z (elem:=5) underlying50 B6 (K s+8) (K s+8) ⟨Aw s⟩ Z Z (Cj _) (by rw[f];omega) (by rw[f,cr];omega) ?_;rw[f];rw[<-n];generalize(Az W<|M (madeCells #[C Am 0]<|K s+8) 5).setRow (O<|U W) b=V0 at *))
 go_loopg[5] 8 (λg z wr=>∃k:I,z=C Y k/\D (k+g=K s+8/\K s<=k)/\D (A0 W wr)/\∃cur,D (A7 wr (O<|U W) cur 5)/\D (cur.size=K s+8/\∀j,j<k->cur[j]?=(IL<|s++Jh)[j]?))
 grind;obtain⟨k,rfl,a,h,cur,d,i⟩:=hrel;obtain _|g:=gk
 .have N:¬(k:J)<(K s:J)+8:=AY<|AE a;have F:=T (qC (by grind [D]) λj t=>i.2 j<|AY<|AE a);go_wp2;go_ret;refine⟨Z,?_,h⟩;grind [D]
 have Q:(k:J)<(K s:J)+8:=AY<|AE a;have P:¬k<K s:=AY<|AE a
 .have q:=qA (c:=77) (cur:=cur) (by grind [D]) E (by grind [Jh]) i.2;have L:=Dy wr (O<|U W) k _ _ d;obtain⟨v0,x⟩:∃v,cur[k]?=H v:=⟨_,SN B9⟩
  have V:=Ca (Cc d k) x;have o:D<|(AB wr ⟨O<|U W,k,Ao⟩<|C Am 77).heap[O<|U W]?=H (M (Ay cur k<|CP 77) 5):=by show _=_;rw[DX _ _ _ _ _ _ d.out];rfl
  have p:D<|A0 W<|AB wr ⟨O<|U W,k,Ao⟩<|C Am 77:=Cs h ⟨Z,Z,Z,Bd,λj t=>CY wr _ _ _ B7⟩;have r:D ((Ay cur k<|CP 77).size=K s+8/\∀j,j<k+1->(Ay cur k<|CP 77)[j]?=(IL<|s++Jh)[j]?):=by rw[<-u];exact q
  go_wp2;go_roundg g;exact⟨k+1,Bb,⟨AY<|AE a,AY<|AE a⟩,p,_,o,r⟩;omega
theorem qD(g j:I):(⟨g,0,Ao⟩:Addr).add j=⟨g,j,Ao⟩:=C2
theorem qE(h:Ci g W V):Ci g W<|AB V ⟨g,k,Ao⟩ v:=⟨h.os,h.tape,h.output,by have:=h.size;grind [World.setCell],λj b a=>Ca (CY V _ _ _ Bl)<|h.block j b a⟩
theorem cx{s:A1}(h:A7 W g (IL<|s++Jh) 5)(Q:K s<=200000000):Ar As 21 #[G (Aa g) (K s)<|K s+8,Ae ⟨Aw s⟩] W λe t=>e=Ak (Ah AP)/\Ci g W t:=by
 have R:(⟨Aw s⟩:AT).size=K s:=by simp[ByteArray.size]
 have w:K (s++Jh)=K s+8:=by simp[Jh]
 have F:(convert 50 9<|G (Aa g) (K s)<|K s+8).run As W=.ok (Ae ⟨Aw s⟩) W:=by refine R2 W 50 9 5 ⟨g,0,Ao⟩ (K s+8) s underlying50 underlying5 underlying9 ?_;intro j d;have:=Cc h j;rw[Rt,Hg d,D7 d]at this;rw[qD];exact this
 have r:=T h;go_enter func21,ntmps21;go_wp2
 go_loopg[7,8] (K s+8) (λb y z wr=>∃k:I,y=Ah AP/\z=C Y k/\D (k+b=K s+8)/\D (Ci g W wr)/\∃a,D (A7 wr g a 5)/\D (a.size=K s+8/\∀j,k<=j->a[j]?=(IL<|s++Jh)[j]?))
 exact⟨0,Z,Z,Bg,⟨Z,Z,Z,Cr _,λ_ _ _=>rfl⟩,_,r,by rw[cu,w],λ_ _=>rfl⟩;obtain⟨k,rfl,rfl,o,f,a,i,q⟩:=hrel;obtain _|b:=gk
 .have L:¬(k:J)<(K s:J)+8:=AY<|AE o;go_wp2;go_ret;exact⟨Z,f⟩
 have P:(k:J)<(K s:J)+8:=AY<|AE o;obtain⟨A,p⟩:∃v,a[k]?=H v:=⟨_,SN<|by grind [D]⟩
 have S:=Ca (Cc i k) p;have B:=Dy wr g k _ _ i;have l:D<|(AB wr ⟨g,k,Ao⟩<|C Am 1).heap[g]?=H (M (Ay a k<|C Am 1) 5):=by grind [D,heap_setCell_same]
 have m:D<|Ci g W<|AB wr ⟨g,k,Ao⟩<|C Am 1:=qE f;have n:D ((Ay a k<|C Am 1).size=K s+8/\∀j,k+1<=j->(Ay a k<|C Am 1)[j]?=(IL<|s++Jh)[j]?):=⟨by grind [D],λj d=>by grind [D]⟩
 by_cases N:k<K s
 .have u:(k:J)<(K s:J):=E;go_wp2;go_roundg b;exact⟨k+1,Z,Bb,B9,m,_,l,n⟩;omega
 have u:¬(k:J)<(K s:J):=E;have x:A=C Am 77:=by have c:=q.2 k<|Cr _;rw[p,Rt,Jc E]at c;unfold Jh at c;rw[List.getElem?_replicate,Cp E]at c;injection c
 subst x;go_wp2;go_roundg b;exact⟨k+1,Z,Bb,B9,m,_,l,n⟩;omega
def JH(w w':Ap)(c:Aq):Prop:=Au (Av w)<=Au (Av w')/\∀(g:AH) (cur:A3) (t:AN) (fr:AH×AH),w.heap[g]?=An (Aj cur t fr)->∃cur',w'.heap[g]?=An (Aj cur' t fr)/\cur'.size=cur.size/\∀j:AH,cur'[j]?=cur[j]?\/(j<cur.size/\cur'[j]?=An c)
theorem Tq{w:X}{c:Aq}(d:O (U w)<=O (U w'))(h:∀j,j<O (U w)->w'.heap[j]?=w.heap[j]?):JH w w' c :=
 ⟨d,λg b _ _ a=>⟨b,Ca (h g<|Cd a) a,rfl,λ_=>AF rfl⟩⟩
theorem JH.trans{a b d:X}{c:Aq}(e:JH a b c)(f:JH b d c):JH a d c:=by refine⟨CE e.1 f.1,λg i t fr k=>?_⟩;obtain⟨h,j,l,m⟩:=e.2 g i t fr k;obtain⟨c2,f1,n,o⟩:=f.2 g h t fr j;grind
def Rw{w:X}{c:Aq}:JH w (Az w o) c:=Tq Ba λj a=>CB _ _ _ a
theorem qI{w:X}{e:AN}{i:TypeInfo}{z:Aq}(r:P.underlying t=H (.slice e))(hi:P.info? e=H i)(y:i.zero=H z)(x:i.size=1)(B:i.bytes=bytes)(s:w.ownsRow base e 1 v n xs){a:Addr}{m c:I}(q:∀j u,(AV m cv)[j]?=H u->AC w (a.add j)=H u)(h1:cv.oneCell'=AP)(R:0<m)(ab:n+m<=maxLen)(F:(n+m)*bytes<=140737488355328)(b:(Builtin.append_ #[t,t] ty #[v,G (H a) m c]).run P w=.ok v' w'):JH w w' cv:=by
 subst B;have ag:n+m<=9223372036854775807:=BC;have p:K (AV m cv)=m*i.size:=by rw[x];simp
 rcases s.2 with⟨rfl,rfl⟩|⟨g,f,k,rfl,ac,l,af,ae,L,ah⟩
 .have d:=run_append_nil (P:=P) w t ty e i z r hi y a m c _ p q R E B9;rw[d]at b;injection b with e1 e2;rw[<-e2];exact Tq Ba λj o=>CB w.drew _ j o
 by_cases V:n+m<=f
 .have N:n*i.size+K (AV m cv)<=k.size:=B9;have d:=run_append_room (P:=P) w t ty e i r hi g n f k l a m c _ p q (λu hu=>B9) V N;rw[d]at b;injection b with e1 e2;rw[<-e2,x];refine⟨Ba,λA W t' aa h=>?_⟩;by_cases Q:A=g
  .subst Q;rw[l]at h;injection h with h;injection h with h3 h4 h5;subst h3;subst h4;subst h5;have ad:K k.toList=f:=kfl;refine⟨_,CR _ _ _ _ _ _ l,?_,λj=>?_⟩<;>grind
  grind [setRow_other]
 have S:=s.cells (g:=g) Z;have d:=run_append_grow (P:=P) w t ty e i z r hi y ⟨g,0,Ao⟩ n f xs B9 S a m c _ p q E E<|growslice_fits E F;rw[d]at b;injection b with e1 e2;rw[<-e2];exact Tq Ba λj o=>CB w.drew _ j o
theorem WQ{w:X}{o:Oper}{a:Act}(ab:o.guard=Ao){s x:Operand}(ho:o.op=.call {callee:=.builtin .append,args:=#[s,x],argTypes:=#[t,t]}){e:AN}{i:TypeInfo}{z:Aq}(y:P.underlying t=H (.slice e))(hi:P.info? e=H i)(A:i.zero=H z)(r:i.size=1)(g:i.bytes=bytes)(ac:z.cells.size=1)(hs:a.eval s=v)(p:w.ownsRow base e 1 v n<|AV n cv){m:I}(c:I)(hx:a.eval x=G (H ad) m c)(l:∀j u,(AV m cv)[j]?=H u->AC w (ad.add j)=H u)(R:cv.oneCell'=AP)(L:0<m)(f:n+m<=maxLen)(k:(n+m)*bytes<=140737488355328)(aa:base<=O (U w))(h:∀b d,d.ownsRow base e 1 b (n+m) (AV (n+m) cv)->JH w d cv->w.grownBy d (Ax v)->(Ax b=Ax v\/Ax b=H (O<|U w))->wpList P ops Q rest (a.put o.dst b) d):wpList P ops Q (o::rest) a w:=by refine LP ab λae hK=>?_;have F:K (AV m cv)=m*1:=Ba;have N:∀u∈AV m cv,u.oneCell'=AP:=λu hu=>B9;obtain⟨b,d,q,B,S,_⟩:=Rd (P:=P) w base t o.type e i z 1 bytes y hi A r g ac B8 v n _ p ad m c _ F l N f k aa;have V:=WP y hi A r g p F l N L f k q;have W:=qI y hi A r g p l R L f k q;rw[VA]at B;unfold Oper.wp execOp;simp only[ho,resolve,invoke,builtin,GT,Ge,FZ,OE,I7,Mv,hs,hx,q];exact hK _ _<|h b d B W S V
def Ib(V:Ap)(v c:Aq)(lo:AH):Prop:=∃a n cap,v=Ac a n cap/\(n=0\/∃g cur,a=Aa g/\lo<=g/\V.heap[g]?=An (Aj cur 5 (0,0))/\n<=cur.size/\∀j,j<n->cur[j]?=An c)
theorem Ib.marks{c:Aq}(h:Ib V v c lo)(f:JH V V' c):Ib V' v c lo:=by
 obtain⟨a,n,b,rfl,h⟩:=h;refine⟨a,n,b,Z,?_⟩;rcases h with h|⟨g,d,m,o,e,p,q⟩
 .exact AF h
 obtain⟨i,j,k,l⟩:=f.2 g d _ _ e;grind
theorem Ib.a2{c:Aq}(h:V.ownsRow lo 5 1 v n<|AV n c):Ib V v c lo:=by
 rcases h.2 with⟨rfl,rfl⟩|⟨g,b,a,rfl,d,f,i,k,l,m⟩
 .exact⟨Ao,0,0,Z,AF Z⟩
 refine⟨_,n,b,Z,AG ⟨g,a,Z,d,f,E,λj o=>?_⟩⟩;have e:(a.toList.take<|n*1)[j]?=H c:=B9;grind
theorem Qb{c:Aq}(h:V.ownsRow lo 5 1 v n<|AV n c)(m:JH V V' c):V'.ownsRow lo 5 1 v n<|AV n c:=by
 refine⟨h.1,?_⟩;rcases h.2 with a|⟨g,b,d,e,j,a,k,l,q,r⟩
 .exact AF a
 obtain⟨f,i,o,p⟩:=m.2 g d _ _ a;refine AG ⟨g,b,f,e,j,i,k,l,E,?_⟩;apply VR;grind
def Ek(n:AH):AH:=200+n/4%50
def WR(b:n<=9223372036854775807):Ar As 16 #[C Y n] W λe a=>e=Ak (C Am<|Ek n)/\a=W:=by
 go_enter func16,ntmps16;go_wp2;go_ret;refine⟨?_,Z⟩;have e:(200+(n:J)/4%50)=((Ek n:I):J):=by unfold Ek;omega
 rw[<-e];rfl
def Tryz.infoBs:(prog.info? 50).map (λi=>(i.zero,i.size,i.bytes))=H (H<|G Ao 0 0,1,24):=B6
structure Ts(B b0:AH)(cs gv lv:Aq)(N:AH)(xs:AJ Aq)(V:Ap):Prop where
 b:V.heap[B]?=An (Aj #[cs,gv,lv] 31)
 aq:V.ownsRow b0 50 1 lv N xs
 ne:∀g,Ax lv=An g->g≠B
structure Dw(W V:Ap)(X:AH->Prop):Prop where
 os:V.os=W.os
 tape:V.tape=W.tape
 output:V.output=W.output
 size:Au (Av W)<=Au (Av V)
 block:∀j,j<Au (Av W)->¬X j->V.heap[j]?=W.heap[j]?
theorem Dw.refl(W:Ap)(X:I->Prop):Dw W W X:=⟨rfl,rfl,rfl,Cr _,λ_ _ _=>rfl⟩
theorem Dw.next{W V V':Ap}{X:I->Prop}(h:Dw W V X)(a:Dw V V' X):Dw W V' X:=⟨Ca a.os h.os,Ca a.tape h.tape,Ca a.output h.output,CE h.size a.size,λj b c=>Ca (a.block j (CQ b h.size) c)<|h.block j b c⟩
def M0{W V:Ap}{X Y:I->Prop}(h:Dw W V X)(c:∀g,X g->Y g):Dw W V Y:=⟨h.os,h.tape,h.output,h.size,λj a b=>h.block j a λh=>b<|c j h⟩
def Lk{W V:Ap}{X:I->Prop}(h:A0 W V):Dw W V X:=⟨h.os,h.tape,h.output,h.size,λj a _=>Co h j a⟩
def Ry{W V:Ap}{X:I->Prop}{r:Option I}(h:(Az W o).grownBy V r)(b:∀g,r=H g->g<O (U W)->X g):Dw W V X :=
 ⟨h.os,h.tape,h.output,by have:=h.size;simp at this;omega,λj a c=>Ca (h.block j B7 λe=>c<|b j e.symm a)<|CB _ _ _ a⟩
theorem Tt{W:Ap}{X:I->Prop}(hx:X g):Dw W (AB W ⟨g,k,Ao⟩ v) X:=⟨rfl,rfl,rfl,Bd,λj _ a=>CY W _ _ _ B9⟩
theorem tB{x:AU}{xs:A1}(a:bs[i]?=H c)(b:¬(i:J)=lim)(hx:c=x):Dt bs lim (x::xs) i=Dt bs lim xs (i+1):=kfG
def TP:∀(g p:I) (a:A1) (e:I) (x:A1) (q:I),Cx bs lim p->DA bs lim g p a e=.ok (x,q)->Cx bs lim q
 |0,p,a,e,x,q,_,h=>by rw[DA]at h;cases h
 |g+1,p,a,e,x,q,hi,h=>by
  rw[DA]at h;rcases hc:bs[p]? with _|c
  .rw[hc]at h;cases h
  rw[hc]at h;simp only[]at h;by_cases d:(p:J)=lim
  .rw[Cp d]at h;cases h
  rw[Cl d]at h;have b:=Eu hi hc d;split at h
  .injection h with h;injection h with _ h;subst h;exact b
  split at h
  .rcases he:I9 bs lim (p+1)with f|y
   .rw[he]at h;cases h
   obtain⟨r,q1⟩:=y;rw[he]at h;exact TP g q1 _ _ x q (eJ b he).1 h
  split at h
  .cases h
  split at h
  .cases h
  exact TP g _ _ _ x q b h
theorem eQ{w3:X}{d:A2}{x:J×J}(h:CV k w3 (λj=>O (U w2)<=j/\j<O (U w3)) v d)(e:B<=O (U w2))(f:N+2<O (U w2)):CV k (AD (AD w3 (N+1) y) (N+2)<|Cf x) (λj=>B<=j/\j<O (U<|AD (AD w3 (N+1) y) (N+2)<|Cf x)) v d:=by
 refine h.same (λj c=>⟨E,?a⟩) λj c=>?b
 case a =>
  simp_all
 grind [setRow_other]
def eR(r:A5 AI):AS (AI×AI)<|AM Unit×AH:=match r with
 |.error e=>.error e
 |.ok (z,q)=>.ok (.lit<|.int Al z,q)
def tC{r:A5 J}{f:J×J}(h:GH bs lim r<|.error f):GH bs lim (eR r)<|.error f:=by
 rcases h with h|⟨q,_,_,_,x,a⟩
 .rw[h];exact AF Z
 cases a
def tD{r:A5 J}{q:I}(h:GH bs lim r<|.ok (z,q)):GH bs lim (eR r)<|.ok (.lit<|.int Y z,q):=by
 rcases h with h|⟨e,b,c,d,x,a⟩
 .rw[h];exact AF Z
 injection a with a;injection a with h5 h6;subst h6;rw[b];exact AG ⟨q,Z,c,d,_,Z⟩
def NV{F:I->Prop}{d:A2}(h:CV 1 V F v d):CV (k+1) V F v d:=h.ai E
theorem MM(h:Fc k bs lim W r e W'):A0 W W'/\∃c g n s a i j b p m z F,GH bs lim r c/\e=Ak (Af #[.agg<|Cg g n s (G a i j)<|G b p m,C Y z,.agg<|Cf F])/\(∀d q,c=.ok (d,q)->Cx bs lim q/\z=(q:J)/\F=(0,0)/\CV k W' (λj=>O (U W)<=j/\j<O (U W')) (.agg<|Cg g n s (G a i j)<|G b p m) d)/\(∀f,c=.error f->F=f):=by obtain⟨l,c,o,t⟩:=h;grind
def RR(k:AH)(bs:A1)(lim:AI)(W:Ap)(r:AS (AI×AI)<|AM Unit×AH)(T:A3)(z:AI)(F:AI×AI):Prop :=
 ∀W',A0 W W'->Fc k bs lim W r (Ak<|Af #[.agg T,Ab Al z,.agg<|Cf F]) W'
def RS{n:J}{s:AT}{f:J×J}:RR k bs lim W (.error f) (Cg kd n s Cq Cq) z f :=
 λ_ h=>⟨h,.error f,AF rfl,_,_,_,_,_,_,_,_,_,_,rfl⟩
def eS{n:J}{s:AT}{q:I}{dd:A2}(c:Cx bs lim q)(h:∀a,CV 1 a (λj=>O (U W)<=j/\j<O (U a)) (.agg<|Cg kd n s Cq Cq) dd):RR (k+1) bs lim W (.ok (dd,q)) (Cg kd n s Cq Cq) q (0,0) :=
 λa b=>⟨b,.ok (dd,q),AF rfl,c,_,_,_,_,_,_,_,_,_,rfl,NV<|h a⟩
def Xw(fm d:J)(dp:J){x:J×J}(q:D5 bs l i 9=x)(r:RR (k+1) bs lim W R Cv 0 x)(b:CN bs l i=AQ\/(CN bs l i=AP/\∃c,bs[i]?=H c/\(∀x,x∈[110,102,116,34,91,123,45]->¬c.toNat=x)/\((c.toNat:J)<48\/57<(c.toNat:J)))):Ar As 90 #[.agg<|Ct bs fm d l,C Y i,C Y dp] W<|Fc (k+1) bs lim W R:=by
 have o:=NJ fm d q;have g:=Ll W bs fm d l;have f:=T r;unfold Ct;rcases b with e|⟨e,c,s,t,b|b⟩
 all_goals
  have p:=GI fm d e
  try
   have y:=Et s;simp only[Iz,Ms,Mx,aC,forall_eq]at t;have A:=Df (c:=c) 110 E;have z:=Df (c:=c) 102 E;have B:=Df (c:=c) 116 E;have L:=Df (c:=c) 34 E;have P:=Df (c:=c) 91 E;have F:=Df (c:=c) 123 E;have N:=Df (c:=c) 45 E
   first
    |have v:AR (48<=(c.toNat:J))=AQ:=B7
    |(have u:48<=(c.toNat:J):=E;have w:AR ((c.toNat:J)<=57)=AQ:=B7)
  go_enter func90,ntmps90
  go_wp2_with(first
   |(go_at_call 116;apply g.ck<|p _;intro Q h j m c2 n)
   |(go_at_call 84;apply h.ck<|o _;intro S a j m c2 n)
   |((with_reducible refine zT 6 _ rfl rfl (O (U W)+1) (Cv) ?_ ?_);exact⟨Z,Z,a.b,thg⟩)
   |((with_reducible refine zF 8 _ rfl rfl (O (U W)+2) x ?_ ?_);exact⟨Z,Z,Gl a CT⟩))
  refine F4 results90 (EO a CT _ _) _ Z Z Z Z<|f _ (EO a CT _ _).2.2
def eT(P:bs[i]?=H c)(L:CN bs l i=AP){v:I}{a:Array AU}(Q:c.toNat=v)(t:(v,a,kd)∈([(110,#[110,117,108,108],0),(102,#[102,97,108,115,101],1),(116,#[116,114,117,101],2)]:AJ<|I×Array AU×J))(B:∀V,Ar As 127 #[.agg<|Ct bs fm d l,C Y i,Ae ⟨a⟩] V λe z=>e=Ak (Af #[C Y q,.agg<|Cf F])/\A0 V z)(N:RR (k+1) bs lim W R (Cg kd 0 ⟨#[]⟩ Cq Cq) q F):Ar As 90 #[.agg<|Ct bs fm d l,C Y i,C Y dp] W<|Fc (k+1) bs lim W R:=by
 have aa:=M4 P Q;have A:=GI fm d L;have x:=Ll W bs fm d l;have u:=T N;unfold Ct at *;simp only[Iz,LO,Ms,Mx]at t;rcases t with h|h|h
 all_goals
  obtain⟨rfl,rfl,rfl⟩:=h
 let kd:J:=0;let b:I:=40;rotate_left
 let kd:J:=1;let b:I:=52;rotate_left
 let kd:J:=2;let b:I:=64;rotate_left
 all_goals
  go_enter func90,ntmps90
  go_wp2_with(first
   |(go_at_call 116;apply x.ck<|A _;intro w2 y c0 c1 c2 c3)
   |(go_at_call 127;apply ck (B _) y.next;intro n r)
   |((with_reducible refine zF _ _ rfl rfl (O<|U n) F ?_ ?_);exact⟨Z,Z,Cj n⟩;apply FA;intro V4 o;have f:=T<|o▸r.next (KO);have w:=T<|o▸CR _ _ _ _ _ _ (Cj _);have p:=T<|Cd r.a;generalize O (U n)=M at *))
  apply Dl (S:=λj=>A7 j M _ 103) (w) B6;intro g;refine tk 0 b (.agg<|Cg kd 0 ⟨#[]⟩ Cq Cq) Z B6 GB (λj s=>by unfold Cg Cq;dsimp only[kd];go_simp) g ?_;apply OX 1 (dst:=(b+1)) (v:=(C Y q)) B6 GB g;apply tk 2 (b+2) _ Z B6 GB (λj s=>yF _ s Z Z) g;have m:=(Do _ (O (U W)+1) M (Cg kd 0 ⟨#[]⟩ Cq Cq)<|AY<|AE p).trans g;refine Ii 3 6 b B6 (f.drew.b) thg m ?_;apply Cb 4 7 (C Y q) m;refine sF 5 8 (b+2) (F:=F) B6 (Gl f.drew CT) (sx (AY<|AE p) m) <| CK ?_;dsimp only[b];go_simp;go_wp2;refine F4 results90 (EO f.drew CT _ _) _ Z Z Z Z<|u _ (EO f.drew CT _ _).2.2
def eU(A:bs[i]?=H c)(y:CN bs l i=AP){s:AT}(B:c.toNat=34)(x:∀V,Ar As 128 #[.agg<|Ct bs fm d l,C Y i] V λe v=>e=Ak (Af #[.string s,C Y q,.agg<|Cf F])/\A0 V v)(z:RR (k+1) bs lim W R (Cg 4 0 s Cq Cq) q F):Ar As 90 #[.agg<|Ct bs fm d l,C Y i,C Y dp] W<|Fc (k+1) bs lim W R:=by
 have aa:=M4 A B;have w:=GI fm d y;have t:=Ll W bs fm d l;have p:=C9 z;unfold Ct at *;go_enter func90,ntmps90
 go_wp2_with(first
  |(go_at_call 116;apply t.ck<|w _;intro w2 u N P c2 Q)
  |(go_at_call 128;apply ck (x _) u.next;intro h n)
  |((with_reducible refine zF _ _ rfl rfl (O<|U h) F ?_ ?_);exact⟨Z,Z,Cj h⟩;apply FA;intro L j;have b:=C9<|j▸n.next (KO);have r:=C9<|j▸CR _ _ _ _ _ _ (Cj _);have m:=C9<|Cd n.a;generalize O (U h)=M at *))
 apply Dl (S:=λf=>A7 f M _ 103) (r) B6;intro a;refine Cb 0 77 (.string s) a <| Ch 1 78 (.agg<|Cg 4 0 s Cq Cq) Z (λf o=>ke3) a <| Cb 2 79 (C Y q) a <| Ch 3 80 (.agg<|Cf F) Z (λf o=>yF _ o Z Z) a ?_;have g:=(Do _ (O (U W)+1) M (Cg 4 0 s Cq Cq)<|AY<|AE m).trans a;refine Ii 4 6 78 (T:=(Cg 4 0 s Cq Cq)) B6 (b.drew.b) thg g <| Cb 5 7 (C Y q) g <| sF 6 8 80 (F:=F) B6 (Gl b.drew CT) (sx (AY<|AE m) g) <| CK ?_;go_simp;go_wp2;refine F4 results90 (EO b.drew CT _ _) _ Z Z Z Z<|p _ (EO b.drew CT _ _).2.2
def Xx(n:bs[i]?=H c)(a:CN bs l i=AP)(b:((c.toNat=91\/c.toNat=123)/\∀V,Ar As 129 #[.agg<|Ct bs fm d l,C Y i,C Y dp] V<|Fc (k+1) bs lim V R)\/((c.toNat=45\/(48<=(c.toNat:J)/\(c.toNat:J)<=57))/\∀V,Ar As 130 #[.agg<|Ct bs fm d l,C Y i] V<|Fc (k+1) bs lim V R)):Ar As 90 #[.agg<|Ct bs fm d l,C Y i,C Y dp] W<|Fc (k+1) bs lim W R:=by
 have A:=GI fm d a;have t:=Ll W bs fm d l;unfold Ct at *;rcases b with⟨b|b,m⟩|⟨b|⟨ac,ad⟩,m⟩
 all_goals
  have q:=T m
  first
   |(have N:=M4 n b)
   |(have N:=Et n;have ag:=Df (c:=c) 110 E;have af:=Df (c:=c) 102 E;have ah:=Df (c:=c) 116 E;have aj:=Df (c:=c) 34 E;have al:=Df (c:=c) 91 E;have ai:=Df (c:=c) 123 E;have ak:=Df (c:=c) 45 E)
  go_enter func90,ntmps90
  go_wp2_with(first
   |(go_at_call 116;apply t.ck<|A _;intro w2 j c0 c1 c2 c3))
  apply (q _).mono;rintro aa w3 o;have P:=Cd j.a;obtain⟨L,r',kk,nn,s,v,S,f,x,p1,m1,z,F,ae,rfl,hA,hF⟩:=MM o;have g:=T<|j.next L;have r:=T o.2;simp only[]
  go_wp2_with(first
   |((with_reducible refine zT 6 _ rfl rfl (O (U W)+1) (Cg kk nn s (G v S f)<|G x p1 m1) ?_ ?_);exact⟨Z,Z,g.b,thg⟩)
   |((with_reducible refine zF 8 _ rfl rfl (O (U W)+2) F ?_ ?_);exact⟨Z,Z,Gl g CT⟩))
  refine F4 results90 (EO g CT _ _) (.int _ z) Z Z Z Z ⟨(EO g CT _ _).2.2,?_⟩;obtain⟨p,a,h⟩:=AE r;refine⟨p,a,?_⟩;obtain ab|am:=p
  .exact h
  obtain⟨a,y,n',s',u,Q,e,w,p',m',h,B⟩:=h;exact⟨a,y,n',s',u,Q,e,w,p',m',h,eQ B j.ac.size P⟩
def IQ(k:AH)(V:Ap)(b:AH)(u:Aq)(ex:AH->Prop)(ds:AJ<|AM Unit):Prop :=
 ∃xs,V.ownsRow b 101 5 u (At ds) xs/\∀(i:AH) (d:A2),ds[i]?=An d->∃a,Ht xs i a/\CV k V (λj=>b<=j/\j<Au (Av V)/\An j≠Ax u/\¬ex j) (.agg a) d
theorem En{e:AN}{size:I}(c:W.ownsRow base e size v n xs)(h:Ax v=H g):g<O (U W):=by
 rcases c.2 with⟨a,_⟩|⟨i,d,f,rfl,_,b,_⟩
 .subst a;cases h
 cases h;exact Cd b
def TQ{size:I}(h:V.ownsRow b t size u n xs)(l:∀j,b<=j->j<O (U V)->V'.heap[j]?=V.heap[j]?):V'.ownsRow b t size u n xs:=by
 refine⟨h.1,?_⟩;rcases h.2 with i|⟨g,d,f,e,a,c,k⟩
 .exact AF i
 exact AG ⟨g,d,f,e,a,Ca (l g a<|Cd c) c,k⟩
theorem IQ.next(h:IQ k V b u ex ds)(p:O (U V)<=O (U V'))(e:∀j,b<=j->j<O (U V)->V'.heap[j]?=V.heap[j]?):IQ k V' b u ex ds:=by obtain⟨o,l,m⟩:=h;refine⟨o,TQ l e,λi d n=>?_⟩;obtain⟨a,f,g⟩:=m i d n;exact⟨a,f,g.same (λj c=>⟨c.1,AY c.2.1,c.2.2⟩) λj c=>e j c.1 c.2.1⟩
theorem Xy{ys:AJ Aq}{a:A3}(b:K xs=n*5)(hi:i<n)(h:Ht xs i a):Ht (xs++ys) i a:=by grind [Ht]
theorem Xz{a:A3}(c:K xs=n*5)(b:a.size=5):Ht (xs++a.toList) n a:=by grind [Ht,List.take_of_length_le]
theorem IQ.push{L:I}{d:A2}{a:A3}(m:V.ownsRow b 101 5 u (K ds) xs)(y:∀(i:I) (d:A2),ds[i]?=H d->∃a,Ht xs i a/\CV k V (λj=>b<=j/\j<O (U V)/\H j≠Ax u/\¬ex j) (.agg a) d)(B:CV k V (λj=>L<=j/\j<O (U V)) (.agg a) d)(F:∀g,Ax u=H g->g<L)(hb:b<=L)(A:∀j,L<=j->¬ex j)(z:a.size=5)(P:w5.ownsRow b 101 5 v' (K ds+1)<|xs++a.toList)(n:(Az V o).grownBy w5<|Ax u)(h:Ax v'=Ax u\/Ax v'=H (O<|U<|Az V o)):IQ k w5 b v' ex<|ds++[d]:=by
 have N:O (U V)+1<=O (U w5):=BZ;have q:=λj c l=>Ca (n.block j B7 l)<|CB _ _ _ c;have r:∀j,j<O (U V)->H j≠Ax u->H j≠Ax v':=λj c l=>by
  rcases h with h|h
  .rw[h];exact l
  rw[h];intro e;injection e with e;simp at e;omega
 refine⟨xs++a.toList,B9,λi v f=>?_⟩;by_cases p:i<K ds
 .rw[Hg p]at f;obtain⟨t,w,x⟩:=y i v f;exact⟨t,Xy m.1 p w,x.same (λj c=>⟨c.1,AY c.2.1,r j c.2.1 c.2.2.1,c.2.2.2⟩) λj c=>q j c.2.1 c.2.2.1⟩
 have e:i=K ds:=B9;subst e;rw[Jc<|Cr _,Rf]at f;injection f with f;subst f;have s:∀j,L<=j->H j≠Ax u:=λj c e=>B9;exact⟨a,Xz m.1 z,B.same (λj c=>⟨AY c.1,AY c.2,r j c.2<|s j c.1,A j c.1⟩) λj c=>q j c.2<|s j c.1⟩
def IQ.ac(h:IQ k V b u ex ds)(q:B<=b):CV (k+1) V (λj=>B<=j/\j<O (U V)) (.agg<|Cg 6 0 ⟨#[]⟩ Cq u)<|.agg ds:=by obtain⟨p,l,m⟩:=h;refine⟨u,p,Z,P5 l λg r o=>⟨E,o⟩,λi d n=>?_⟩;obtain⟨a,e,f⟩:=m i d n;exact⟨a,e,f.same (λj c=>⟨AY c.1,c.2.1⟩) λ_ _=>rfl⟩
def XA:IQ k V b Cq ex []:=⟨[],Fi _ _ _ _,λi d h=>BB⟩
def Qk{α:Type}(bs:A1)(lim:AI)(itF:α->AH->A5 α)(last g p1:AH)(acc:α):A5 α:=match itF acc p1 with
   |.error e=>.error e
   |.ok (acc',p2)=>match DW bs lim (At bs+1-p2) p2 with
    |.error e=>.error e
    |.ok (_,p3)=>match bs[p3]? with
     |none=>.error (9,p3)
     |some c=>if(p3:AI)=lim then .error (8,p3)else if c.toNat=last then .ok (acc',p3+1)else if c.toNat=44 then FT bs lim itF last g (p3+1) acc' else .error (9,p3)
def eV{α:Type}(bs:A1)(lim:J)(itF:α->I->A5 α)(last g p:I)(acc:α):FT bs lim itF last (g+1) p acc=match DW bs lim (K bs+1-p) p with
  |.error e=>.error e
  |.ok (_,p1)=>Qk bs lim itF last g p1 acc:=by
 rw[FT];rfl
def P9{α:Type}(bs:A1)(lim:AI)(itF:α->AH->A5 α)(last g p:AH)(acc:α)(R:A5 α):Prop :=
 Cx bs lim p/\((∃g',g=g'+1/\Qk bs lim itF last g' p acc=R)\/((p:AI)=lim/\p<At bs/\R=.error (8,(p:AI))))
def eW{α:Type}(hl:Lm bs l lim){itF:α->I->A5 α}{acc:α}{R:A5 α}(hi:Cx bs lim p)(a:FT bs lim itF last (g+1) p acc=R):P9 bs lim itF last (g+1) (EG bs l (K bs+1-p) p) acc R:=by
 rw[eV]at a;rcases MH hl (K bs+1-p) p hi with⟨q,b,c,d,e,_⟩|⟨q,b,c,d,e⟩
 .rw[b]at a;rw[c];exact⟨d,AF ⟨g,Z,a⟩⟩
 rw[b]at a;rw[c];exact⟨⟨E,E⟩,AG ⟨d,e,a.symm⟩⟩
structure Pa(W:Ap)(B b0 base S:AH)(c cs gv:Aq)(la0 o0:Option AH)(vs:AJ Aq)(lv:Aq)(N:AH)(xs:AJ Aq)(V:Ap):Prop where
 b:Ts B b0 cs gv lv N xs V
 aq:Dw W V (λj=>j=B\/An j=la0\/An j=o0\/Au (Av W)<=j)
 all:∀v∈vs,Ib V v c base/\∀g,Ax v=An g->base<=g/\g<S
 rb:∀g,Ax lv=An g->An g=la0\/S<=g
 a:S<=Au (Av V)/\base<=S/\B<base/\Au (Av W)<=S
 lb:∀g,la0=An g->g<base
def NW{size:I}(h:V.ownsRow b t size u n xs)(l:∀j,Ax u=H j->V'.heap[j]?=V.heap[j]?):V'.ownsRow b t size u n xs:=by
 refine⟨h.1,?_⟩;rcases h.2 with d|⟨g,a,c,e,i,k,f⟩
 .exact AF d
 exact AG ⟨g,a,c,e,i,Ca (l g kfs) k,f⟩
def Ib.a0{c:Aq}(h:Ib V v c lo)(k:∀g,Ax v=H g->V'.heap[g]?=V.heap[g]?):Ib V' v c lo:=by
 obtain⟨a,n,b,rfl,h⟩:=h;refine⟨a,n,b,Z,?_⟩;rcases h with h|⟨g,d,rfl,e,f,i,j⟩
 .exact AF h
 exact AG ⟨g,d,Z,e,Ca (k g Z) f,i,j⟩
theorem Pa.ai{c cs lv':Aq}{la0:Option I}(h:Pa W B b0 base S c cs gv la0 o0 vs lv N xs V)(p:V'.ownsRow b0 50 1 lv' (N+1)<|xs++[u])(d:(Az V o).grownBy V'<|Ax lv)(q:Ax lv'=Ax lv\/Ax lv'=H (O<|U<|Az V o)):Pa W B b0 base S c cs gv la0 o0 vs lv' (N+1) (xs++[u])<|AB V' ⟨B,2,Ao⟩ lv':=by
 have x:=Cd h.b.b;have L:O (U V)+1<=O (U V'):=B2 d.size;have l:=λj f y=>Ca (d.block j B7 y)<|CB _ _ _ f;have z:H B≠Ax lv:=λe=>h.b.ne B e.symm Z;have w:=Ca (l B x z) h.b.b;have n:∀j,j≠B->(AB V' ⟨B,2,Ao⟩ lv').heap[j]?=V'.heap[j]?:=λj f=>CY V' _ _ _ keR;have m:∀g,Ax lv'=H g->g≠B:=λg e=>by
  rcases q with a|a
  .grind
  rw[a]at e;injection e with e;simp at e;omega
 have A:O (U<|AB V' ⟨B,2,Ao⟩ lv')=O (U V'):=Bd;refine⟨⟨?_,?_,m⟩,?_,λv i=>⟨?_,(h.all v i).2⟩,λg e=>?_,⟨by rw[A];have:=h.a;omega,h.a.2⟩,h.lb⟩
 .rw[DX _ _ _ _ _ _ w];rfl
 .refine⟨p.1,?_⟩;rcases p.2 with b|⟨g,r,s,e,a,b,k⟩
  .exact AF b
  exact AG ⟨g,r,s,e,a,Ca (n g<|m g kfs) b,k⟩
 .refine(h.aq.next<|Ry d λg e F=>?_).next (Tt<|AF rfl)
  rcases h.rb g e with a|a
  .exact AG<|AF a
  exact AG<|AG<|AG<|AY h.a
 .refine(h.all v i).1.a0 λg e=>?_;have k:=(h.all v i).2 g e;rw[n g<|AY h.a];refine l g (AY h.a) λt=>?_;rcases h.rb g t.symm with a|a
  .have:=h.lb g a.symm;omega
  omega
 rcases q with a|a
 .exact h.rb g<|Ca a.symm e
 rw[a]at e;injection e with e;simp at e;right;have:=h.a;omega
theorem tE{c cs:Aq}(a:Ts B b0 cs gv lv N xs W)(hF:Dw W V λj=>H j=o0)(d:∀g,o0=H g->base<=g)(i:B<base)(b:∀g,Ax lv=H g->g<base)(k:base<=O (U W))(m:∀v∈vs,∃n,V.ownsRow base 5 1 v n<|AV n c):Pa W B b0 base (O<|U V) c cs gv (Ax lv) o0 vs lv N xs V:=by refine⟨⟨Ca (hF.block B E λe=>AY<|d B e.symm) a.b,NW a.aq λj e=>hF.block j (En a.aq e) λf=>B3 (b j e)<|d j f.symm,a.ne⟩,M0 hF λj h=>AG<|AG<|AF h,λv l=>?_,λg e=>AF e.symm,⟨Cr _,AY hF.size,i,hF.size⟩,b⟩;grind [Ib.a2,DK,En]
theorem tF{n0 n1 n2 n3:I}{c v0 v1 v2 v3:Aq}(a:V.ownsRow base 5 1 v0 n0<|AV n0 c)(b:V.ownsRow base 5 1 v1 n1<|AV n1 c)(d:V.ownsRow base 5 1 v2 n2<|AV n2 c)(e:V.ownsRow base 5 1 v3 n3<|AV n3 c):∀v∈[v0,v1,v2,v3],∃n,V.ownsRow base 5 1 v n<|AV n c:=λv f=>B9
theorem TR{w:X}{cs:A3}(h:O (U w)=n):∀(j:I) (u:Aq),cs.toList[j]?=H u->(Az w<|M cs t).cell? ((⟨n,0,Ao⟩:Addr).add j)=H u:=by grind [EU]
def TS{a:A4}{c:I}(h:v=G a n c):∀u∈[v],u.oneCell'=AP:=λu b=>by simp at b;subst b;subst h;rfl
theorem Ql(h:V.ownsRow base t 1 v n xs):∃a c,v=G a n c:=by rcases h.2 with⟨rfl,rfl⟩|⟨g,b,d,rfl,_⟩<;>grind
theorem eX{cs:Aq}{ad:A4}{l:A1}{en:J}(hW:Ts B b0 cs gv (G la N lcap) N xs W)(bf:B<base)(bk:∀g,Ax (AX la N lcap)=H g->g<base)(bw:b0<=O (U W))(ao:base<=O (U W))(hN:N<=1000000000)(hO:Cn W base (G ad (K l) cap) l)(hl:K l<=200000000)(he:ad.isNone=AP\/en=0):Ar As 22 #[A8 B,G ad (K l) cap,Ae ⟨Aw l⟩,C Y en] W λe u=>e=Ak (Ah AP)/\∃bd bn x F y c2 A L,Pa W B b0 base bd (C Am<|Ek N) cs gv (Ax<|AX la N lcap) (Ax<|AX ad (K l) cap) [G ad (K l) cap,G x (K l+1) F,G y (K l+2) c2,G A (K l+3) L] bn (N+4) (xs++[G ad (K l) cap,G x (K l+1) F,G y (K l+2) c2,G A (K l+3) L]) u:=by
 obtain⟨i0,ag,ah,ai,aj⟩:=DL Tryz.infoU8;obtain⟨bi,v,R,z,S⟩:=DL Tryz.infoBs;have bc:=T hW;have m:A6 W B 2<|G la N lcap:=Cc hW.b 2;have cM:∀af,Ar As 16 #[C Y N] af λe u=>e=Ak (C Am<|Ek N)/\af=u:=λaf=>Ce (WR E) λe u h=>⟨h.1,h.2.symm⟩
 have a6:=T bk;have be:B<O (U W):=E;have bx:=Rs hO;have HO:=T hO.1;have b2:=λw=>Mn (P:=As) w 50 5 ad (K l) cap 0 0 underlying50;generalize hb:ad.isNone=b at *;cases b
 case' false=>obtain rfl:en=0:=by simpa using he
 all_goals
  clear hb he;go_enter func22,ntmps22
  go_wp2_with(first
   |(go_at_call 16;refine Ce (cM _) ?_;rintro e w1 ⟨rfl,rfl⟩))
  go_loopg[11] (K l) (λgh bu wr=>∃k:I,bu=C Y k/\D (k+gh=K l)/\D (Dw W wr λj=>H j=Ax (AX ad (K l) cap))/\D ((ad=Ao/\K l=0/\cap=0)\/∃g c,ad=Aa g/\A7 wr g c 5/\c.size=cap/\K l<=cap/\cap<=maxLen/\base<=g/\∀j,j<k->c[j]?=H (C Am<|Ek N)))
  .refine⟨0,Z,Gf _,Dw.refl _ _,?_⟩;rcases HO.2 with⟨h,h2⟩|⟨g',bv,c,e,h1,h2,h3,h4,h5,_⟩
   .exact AF B9
   exact AG B9
  obtain⟨k,rfl,hg,t,s⟩:=hrel;obtain _|gh:=gk
  .have bz:¬(k:J)<(K l:J):=AY<|AE hg;have ab:D<|wr.ownsRow base 5 1 (G ad (K l) cap) (K l)<|AV (K l)<|C Am<|Ek N:=by
    rcases AE s with⟨rfl,h,rfl⟩|⟨g,c,rfl,Q,r⟩
    .rw[h];exact Fi _ _ _ _
    refine⟨Ba,AG ⟨g,cap,c,Z,r.2.2.2.1,Q,r.2.1,r.2.2.1,by grind [D],?_⟩⟩;apply VR;grind [D]
   have ac:=T<|OK (CE ao t.size)<|CQ be t.size;have a0:=t;have m:=trivial
   go_wp2_with(first
    |(at_builtin;(refine WQ Z Z underlying50 ag ah ai aj Z Z (ab.alloc _) 1 Z (EU) Z B8 Bc E (B0<|AE ac) ?_);intro v1 y1 ar bl bg b3;have am:=T<|Qb ab<|(Rw).trans bl;have ax:=T ar;have V:=T<|Ry bg λg e _=>e.symm;have ae:D<|base<=O (U y1)/\B<O (U y1):=⟨B3 (AE ac) V.size,B3 (AE ac) V.size⟩;obtain⟨x,F,rfl⟩:=Ql ar;have m:=trivial)
    |(at_builtin;(refine WQ Z Z underlying50 ag ah ai aj Z Z (am.alloc _) 2 Z (EU) Z B8 Bc E (B0<|AE ae) ?_);intro v2 y2 au ap bh b4;have an:=T<|Qb am<|(Rw).trans ap;have ay:=T au;have a7:=T<|(Rw).trans ap;have aa:=T<|Ry bh λg e _=>e.symm;have bb:D<|base<=O (U y2)/\B<O (U y2):=⟨B3 (AE ae) aa.size,B3 (AE ae) aa.size⟩;obtain⟨y,c2,rfl⟩:=Ql au;have m:=trivial)
    |(at_builtin;(refine WQ Z Z underlying50 ag ah ai aj Z Z (an.alloc _) 3 Z (EU) Z B8 Bc E (B0<|AE bb) ?_);intro v3 y3 av aq bj b5;have ba:=T<|Qb an<|(Rw).trans aq;have az:=T av;have al:=T<|(Rw).trans aq;have a4:=T<|Ry bj λg e _=>e.symm;obtain⟨A,L,rfl⟩:=Ql av;have m:=trivial;have i:=T<|tE bc (((a0.next V).next aa).next a4) (λg e=>DK ab e) bf a6 ao λak hv=>tF (ba) (Qb (Qb ax a7) al) (Qb ay al) az ak hv;obtain⟨vs,aw⟩:∃vs:AJ Aq,vs=[G ad (K l) cap,G x (K l+1) F,G y (K l+2) c2,G A (K l+3) L]:=⟨_,rfl⟩;rw[<-aw]at i;have m:A6 y3 B 2<|G la N lcap:=Cc i.b.b 2)
    |(at_builtin;(refine JG Z Z underlying29 v R z S Z B8 Z (i.b.aq.alloc _) 1 1 Z Z (EU) (TS Z) B8 Bc E (B0 i.aq.size) ?_);intro r1 x0 f d q;obtain⟨br,bo,rfl⟩:=ownsRow_succ f;have n:=T<|i.ai f d q;have a:=T<|Ca (d.block B (B0<|Cd i.b.b) λe=>i.b.ne B e.symm Z)<|Ca (CB _ _ _<|Cd i.b.b) i.b.b;have m:A6 x0 B 2<|G la N lcap:=Cc a 2;have f2:=Dy x0 B 2 _ _ a)
    |(at_builtin;(refine JG Z Z underlying29 v R z S Z B8 Z (n.b.aq.alloc _) 1 1 Z Z (TR Bd) (TS Z) B8 Bc E (by have:=n.aq.size;simp[World.setCell]at this ⊢;omega) ?_);intro r2 x1 f d q;obtain⟨bs,bp,rfl⟩:=ownsRow_succ f;have o:=T<|n.ai f d q;have a:=T (Ca (d.block B (by have:=Cd n.b.b;simp[World.setCell]at this ⊢;omega) λe=>n.b.ne B e.symm rfl)<|Ca (CB _ _ _<|Cd n.b.b) n.b.b);have m:A6 x1 B 2<|G (Aa br) (N+1) bo:=Cc a 2;have f2:=Dy x1 B 2 _ _ a)
    |(at_builtin;(refine JG Z Z underlying29 v R z S Z B8 Z (o.b.aq.alloc _) 1 1 Z Z (TR Bd) (TS Z) B8 Bc E (by have:=o.aq.size;simp[World.setCell]at this ⊢;omega) ?_);intro r3 x2 f d q;obtain⟨bt,bq,rfl⟩:=ownsRow_succ f;have p:=T<|o.ai f d q;have a:=T (Ca (d.block B (by have:=Cd o.b.b;simp[World.setCell]at this ⊢;omega) λe=>o.b.ne B e.symm rfl)<|Ca (CB _ _ _<|Cd o.b.b) o.b.b);have m:A6 x2 B 2<|G (Aa bs) (N+1+1) bp:=Cc a 2;have f2:=Dy x2 B 2 _ _ a)
    |(at_builtin;(refine JG Z Z underlying29 v R z S Z B8 Z (p.b.aq.alloc _) 1 1 Z Z (TR Bd) (TS Z) B8 Bc E (by have:=p.aq.size;simp[World.setCell]at this ⊢;omega) ?_);intro r4 x3 f d q;obtain⟨b7,b6,rfl⟩:=ownsRow_succ f;have a5:=T<|p.ai f d q;have a:=T (Ca (d.block B (by have:=Cd p.b.b;simp[World.setCell]at this ⊢;omega) λe=>p.b.ne B e.symm rfl)<|Ca (CB _ _ _<|Cd p.b.b) p.b.b);have m:A6 x3 B 2<|G (Aa bt) (N+1+1+1) bq:=Cc a 2;have f2:=Dy x3 B 2 _ _ a))
   go_ret;have hK:=AE a5;have e:∀(u0 u1 u2 u3:Aq),(((xs++[u0])++[u1])++[u2])++[u3]=xs++[u0,u1,u2,u3]:=λ_ _ _ _=>Ba;rw[e,aw]at hK;exact⟨Z,_,_,_,_,_,_,_,_,hK⟩
  have b1:(k:J)<(K l:J):=AY<|AE hg;obtain⟨g,c,rfl,Q,r⟩:=s.resolve_left λh=>AY<|AE hg;have HC:=T Q;have s:=T r;clear Q r;obtain⟨v0,bm⟩:∃ak,c[k]?=H ak:=⟨_,SN<|AY<|AE s⟩
  have k0:=Ca (Cc HC k) bm;have f0:=Dy wr g k _ _ HC;have HN:D<|(AB wr ⟨g,k,Ao⟩<|C Am<|Ek N).heap[g]?=H (M (Ay c k<|C Am<|Ek N) 5):=by grind [D,heap_setCell_same]
  have a9:D<|Dw W (AB wr ⟨g,k,Ao⟩<|C Am<|Ek N) λj=>H j=Ax (AX (Aa g) (K l) cap):=t.next<|Tt rfl
  have a8:D ((Ay c k<|C Am<|Ek N).size=cap/\K l<=cap/\cap<=maxLen/\base<=g/\∀j,j<k+1->(Ay c k<|C Am<|Ek N)[j]?=H (C Am<|Ek N)):=by grind [D]
  go_wp2;go_roundg gh;exact⟨k+1,Bb,B9,a9,AG ⟨g,_,Z,HN,a8⟩⟩;omega
structure M7(V:Ap)(B:AH)(la:A4)(N lcap:AH)(xs:AJ Aq)(mc:AH->AH):Prop where
 w2:AC V ⟨B,2,Ao⟩=An (Ac la N lcap)
 len:At xs=N
 aq:∀(i:AH) (v:Aq),xs[i]?=An v->∃gr,la=Aa gr/\AC V ⟨gr,i,Ao⟩=An v
 all:∀(i:AH) (v:Aq),xs[i]?=An v->Ib V v (Ab Am (mc i)) 0
structure Kh(W V:Ap):Prop where
 heap:V.heap=W.heap
 os:V.os=W.os
 tape:V.tape=W.tape
 output:V.output=W.output
theorem Kh.refl(W:X):Kh W W:=⟨rfl,rfl,rfl,rfl⟩
theorem Kh.drew(h:Kh W V):Kh W V.drew:=⟨h.heap,h.os,h.tape,h.output⟩
def Kh.ac(h:Kh W V):A0 W V:=⟨h.os,h.tape,h.output,by rw[h.heap];exact Cr _,λj _=>by rw[h.heap]⟩
def Kh.cell(h:Kh W V)(a:Addr):AC V a=AC W a:=Jd (by rw[h.heap])
def XB(h:V.heap=W.heap){a:Addr}:AC V a=AC W a:=Jd (by rw[h])
theorem M7.a0(h:M7 V B la N lcap xs mc)(hi:i<N):∃gr a n b,la=Aa gr/\A6 V gr i (G a n b)/\xs[i]?=H (G a n b)/\∀j,j<n->∃g,a=Aa g/\A6 V g j (C Am<|mc i):=by
 obtain⟨v,c⟩:∃v,xs[i]?=H v:=⟨_,D7<|by rw[h.len];exact hi⟩
 obtain⟨gr,d,e⟩:=h.aq i v c;obtain⟨a,n,b,rfl,f⟩:=h.all i v c;grind [Cc]
theorem tG(h:M7 W B la N lcap xs Ek)(hN:N<=1000000000)(R:∀(i:I) (a:A4) (n c:I),xs[i]?=H (AX a n c)->n<=1000000000):Ar As 7 #[A8 B] W λe m=>e=Ak (Ah AP)/\Kh W m:=by
 have F:=T h;have y:=T R;have o:=h.w2;go_enter func7,ntmps7;go_wp2
 go_loopg[3] N (λg aa wr=>∃i:I,aa=C Y i/\D (i+g=N)/\D (Kh W wr))
 grind [Kh.refl];obtain⟨i,rfl,t,l⟩:=hrel;have x:=(l.cell _).trans o;obtain _|g:=gk
 .have ac:¬(i:J)<(N:J):=AY<|AE t;go_wp2;go_ret;exact⟨Z,l⟩
 have ae:(i:J)<(N:J):=AY<|AE t;obtain⟨gr,a,n,r,rfl,q,hx,z⟩:=F.a0 (i:=i) E;have ag:=y.out i a n r hx;have A:=T z;have L:∀V,Ar As 16 #[C Y i] V λe m=>e=Ak (C Am<|Ek i)/\V=m:=λV=>(WR (n:=i) E (W:=V)).mono λe m h=>⟨h.1,h.2.symm⟩
 have x:=(l.cell _).trans o;have r1:=(l.cell _).trans q;go_wp2
 go_loopg[4] n (λp zj wj=>∃j:I,zj=C Y j/\D (j+p=n)/\D (Kh W wj))
 grind;obtain⟨j,rfl,u,k⟩:=hrel;have x:=(k.cell _).trans o;have r1:=(k.cell _).trans q;obtain _|p:=gk
 .have ad:¬(j:J)<(n:J):=AY<|AE u;go_wp2;go_roundg g;exact⟨i+1,Bb,B9,k⟩;omega
 have af:(j:J)<(n:J):=AY<|AE u;obtain⟨s,rfl,Q⟩:=A.out j E;go_wp2;refine Dl (S:=λd=>d.heap=W.heap) (k.heap) B6 λf=>IB (i:=0) (v:=A8 B) (H 26) Z B6 B6 B6 (λ_ _ _ h=>h) B6 (AF ⟨B6,λd b=>B6⟩) f <| IB (i:=1) (v:=A8 B) (H 27) Z B6 B6 B6 (λ_ _ _ h=>h) B6 (AF ⟨B6,λd b=>Bh⟩) f <| IB (i:=2) (v:=A9 B 2) (H 28) Z B6 B6 B6 (λ_ _ _ h=>h) B6 (AF ⟨B6,λd b=>Bh⟩) f <| IB (i:=3) (v:=G (Aa gr) N lcap) (H 29) Z B6 B6 B6 (λ_ _ _ h=>h) B6 (AF ⟨B6,λd b=>(by have w:=(XB b).trans o;go_simp)⟩) f <| IB (i:=4) (v:=C Y i) (H 30) rfl B6 B6 B6 (λ_ _ _ h=>h) B6 (AF ⟨B6,λd b=>B6⟩) f <| IB (i:=5) (v:=A9 gr i) (H 31) rfl B6 B6 B6 (λ_ _ _ h=>h) B6 (AF ⟨B6,λd b=>Bh⟩) f <| IB (i:=6) (v:=G (Aa s) n r) (H 32) rfl B6 B6 B6 (λ_ _ _ h=>h) B6 (AF ⟨B6,λd b=>(by have w:=(XB b).trans q;go_simp)⟩) f <| IB (i:=7) (v:=C Y j) (H 33) rfl B6 B6 B6 (λ_ _ _ h=>h) B6 (AF ⟨B6,λd b=>B6⟩) f <| IB (i:=8) (v:=A9 s j) (H 34) rfl B6 B6 B6 (λ_ _ _ h=>h) B6 (AF ⟨B6,λd b=>Bh⟩) f <| IB (i:=9) (v:=C Am<|Ek i) (H 35) rfl B6 B6 B6 (λ_ _ _ h=>h) B6 (AF ⟨B6,λd b=>(by have w:=(XB b).trans Q;go_simp)⟩) f <| IB (i:=10) (v:=C Y i) (H 36) rfl B6 B6 B6 (λ_ _ _ h=>h) B6 (AF ⟨B6,λd b=>B6⟩) f <| CH 11 λab P=>?_;go_simp;refine(L _).mono ?_;rintro e w9 ⟨rfl,rfl⟩;simp only[];refine P.out _ _ f λ_=>?_;refine IB (i:=12) (v:=Ah AQ) (H 38) Z B6 B6 B6 (λ_ _ _ h=>h) B6 (AF ⟨B6,λd b=>Bh⟩) f <| CK ?_;go_simp;go_wp2;go_roundg p;exact⟨j+1,Bb,B9,k.drew⟩;omega
def MN(xs:AJ Aq)(n g:AH):Prop:=∃i v,n<=i/\i<n+4/\xs[i]?=An v/\Ax v=An g
def Qm{W V:Ap}{X:I->Prop}(h:Dw W V X){a:Addr}(hb:a.block<O (U W))(hx:¬X a.block):AC V a=AC W a:=Jd<|h.block _ hb hx
theorem tH{c:Aq}(b:A7 V g cur t)(i:k<cur.size):JH V (AB V ⟨g,k,Ao⟩ c) c:=by
 refine⟨Bd,λa d l f h=>?_⟩;by_cases e:a=g
 .subst e;rw[b]at h;injection h with h;injection h with h1 h2 h3;subst h1;subst h2;subst h3;refine⟨Ay cur k c,by grind [heap_setCell_same],Ba,λj=>?_⟩;grind
 grind [heap_setCell_other]
theorem eY(h:M7 W B la N lcap xs mc)(hn:n+4<=N)(hN:N<=1000000000)(ao:∀(i:I) (a:A4) (n c:I),xs[i]?=H (AX a n c)->n<=1000000000)(hdis:∀(i:I) (v:Aq) (g:I),xs[i]?=H v->Ax v=H g->g≠B/\∀gr,la=H ⟨gr,0,Ao⟩->g≠gr)(c:I):Ar As 17 #[Ad<|H ⟨B,0,Ao⟩,C Y n,C Am c] W λe y=>e=Ak (Af #[])/\JH W y (C Am c)/\Dw W y (MN xs n)/\∀(i:I) (v:Aq),n<=i->i<n+4->xs[i]?=H v->Ib y v (C Am c) 0:=by
 have Q:=T h;have ag:=T ao;have HD:=T hdis;have L:=h.w2;have aa:=Fk L;have R:D<|¬MN xs n B:=λ⟨i,v,_,_,f,l⟩=>(hdis i v B f l).1 Z;go_enter func17,ntmps17;go_wp2
 go_loopg[6] 4 (λg au wr=>∃i:I,au=C Y i/\D (i+g=n+4/\n<=i)/\D (Dw W wr<|MN xs n)/\D (JH W wr<|C Am c)/\D (∀(d:I) (v:Aq),n<=d->d<i->xs[d]?=H v->Ib wr v (C Am c) 0))
 grind [D,Dw.refl,Tq];obtain⟨i,rfl,s,q,u,w⟩:=hrel;obtain _|g:=gk
 .have ax:¬(i:J)<(n:J)+4:=AY<|AE s;have t:D (∀(i:I) (v:Aq),n<=i->i<n+4->xs[i]?=H v->Ib wr v (C Am c) 0):=λd v f l o=>w.out d v f (AY<|AE s) o;go_wp2;go_end0;grind [D]
 have a1:(i:J)<(n:J)+4:=AY<|AE s;have az:(i:J)<(N:J):=E;have ac:n<=i/\i<n+4:=AY<|AE s;obtain⟨gr,a,m,z,rfl,F,P,av⟩:=Q.out.a0 (i:=i) E;have a3:=ag.out i a m z P;have V:=T P;have ae:=Fk F;have S:D<|¬MN xs n gr:=λ⟨i,v,_,_,f,l⟩=>(HD.out i v gr f l).2 gr Z Z;obtain⟨_,_,_,am,an⟩:=Q.out.all i _ P;cases am;have af:D (m=0\/∃g b,a=H ⟨g,0,Ao⟩/\W.heap[g]?=H (M b 5 (0,0))/\m<=b.size):=an.imp_right λ⟨g,b,f,_,l,o,_⟩=>⟨g,b,f,l,o⟩
 have w2:=Ca (Qm q.out aa R.out) L;have r1:=Ca (Qm q.out ae S.out) F;go_wp2
 go_loopg[7] m (λA zj wr=>∃j:I,zj=C Y j/\D (j+A=m)/\D (Dw W wr<|MN xs n)/\D (JH W wr<|C Am c)/\D (∀(d:I) (v:Aq),n<=d->d<i->xs[d]?=H v->Ib wr v (C Am c) 0)/\D (j=0\/∃g b,a=H ⟨g,0,Ao⟩/\wr.heap[g]?=H (M b 5 (0,0))/\m<=b.size/\∀p,p<j->b[p]?=H (C Am c)))
 grind;obtain⟨j,rfl,ab,q,u,w,HJ⟩:=hrel;have w2:=Ca (Qm q.out aa R.out) L;have r1:=Ca (Qm q.out ae S.out) F;obtain _|A:=gk
 .have ay:¬(j:J)<(m:J):=AY<|AE ab;have t:D (∀(d:I) (v:Aq),n<=d->d<i+1->xs[d]?=H v->Ib wr v (C Am c) 0):=λd v f l o=>by
   by_cases e:d=i
   .subst e;rw[AE V]at o;injection o with o;subst o;refine⟨a,m,z,Z,?_⟩;grind [D]
   grind [D]
  go_wp2;go_roundg g;exact⟨i+1,Bb,⟨AY<|AE s,E⟩,q,u,t⟩;omega
 have a2:(j:J)<(m:J):=AY<|AE ab;obtain⟨r,b,rfl,ap,aq,aw⟩:∃g b,a=H ⟨g,0,Ao⟩/\wr.heap[g]?=H (M b 5 (0,0))/\m<=b.size/\∀p,p<j->b[p]?=H (C Am c):=by
  rcases AE af with h|⟨g,b,f,l,o⟩
  .omega
  subst f;rcases AE HJ with h|⟨g',al,h4,h5,h6,h7⟩
  .obtain⟨al,e1,e2,_⟩:=u.out.2 g b _ _ l;grind
  grind
 have x:=T ap;obtain⟨v0,ar⟩:∃v,b[j]?=H v:=⟨_,SN E⟩
 have k0:=Ca (Cc x.out j) ar;have f0:=Dy wr r j _ _ x.out;have ak:D<|MN xs n r:=⟨i,_,ac.1,ac.2,AE V,Z⟩
 have ah:D<|Dw W (AB wr ⟨r,j,Ao⟩<|C Am c)<|MN xs n:=q.out.next<|Tt ak.out
 have ad:=tH (c:=C Am c) x.out (k:=j) E;have aj:=T<|u.out.trans ad;have t:=T λd v f l o=>(w.out d v f l o).marks ad;have ai:D (j+1=0\/∃g b,H (⟨r,0,Ao⟩:Addr)=H ⟨g,0,Ao⟩/\(AB wr ⟨r,j,Ao⟩<|C Am c).heap[g]?=H (M b 5 (0,0))/\m<=b.size/\∀p,p<j+1->b[p]?=H (C Am c)):=by refine AG ⟨r,Ay b j<|C Am c,Z,by grind [heap_setCell_same],by simpa using aq,λp a0=>?_⟩;grind
 go_wp2;go_roundg A;exact⟨j+1,Bb,B9,ah,aj,t,ai⟩;omega
def XC(xs:AJ Aq):Prop:=∀(i i':AH) (v v':Aq) (g:AH),xs[i]?=An v->xs[i']?=An v'->Ax v=An g->Ax v'=An g->i/4=i' / 4
theorem eZ(h:M7 V B la N lcap xs mc){q c:I}(L:n=4*q)(hF:Dw V V'<|MN xs n)(F:∀(i:I) (v:Aq),n<=i->i<n+4->xs[i]?=H v->Ib V' v (C Am c) 0)(hdis:∀(i:I) (v:Aq) (g:I),xs[i]?=H v->Ax v=H g->g≠B/\∀gr,la=Aa gr->g≠gr)(t:XC xs):M7 V' B la N lcap xs λi=>if i/4=n/4 then c else mc i:=by
 have w:¬MN xs n B:=λ⟨i,v,_,_,d,b⟩=>(hdis i v B d b).1 Z;refine⟨Ca (Qm hF (Fk h.w2) w) h.w2,h.len,λi v e=>?_,λi v e=>?_⟩
 .obtain⟨gr,f,j⟩:=h.aq i v e;exact⟨gr,f,Ca (Qm hF (Fk j) λ⟨i,v,_,_,d,b⟩=>(hdis i v gr d b).2 gr f Z) j⟩
 by_cases u:i/4=n/4
 .grind
 simp only[Cl u];have d:=h.all i v e;obtain⟨a,m,l,rfl,b⟩:=d;refine⟨a,m,l,Z,?_⟩;rcases b with b|⟨g,o,rfl,p,k,r,s⟩
 .exact AF b
 refine AG ⟨g,o,Z,p,?_,r,s⟩;refine Ca (hF.block g (Cd k) λ⟨x,A,P,Q,y,z⟩=>?_) k;have:=t i x _ A g e y Z z;omega
def f7(xs:AJ Aq)(g:AH):Prop:=∃(i:AH) (v:Aq),xs[i]?=An v/\Ax v=An g
theorem tI:(λi=>if i/4=n/4 then Ek n else(if i/4=n/4 then 7 else Ek i))=Ek:=by grind [Ek]
theorem tJ{Q:I}(h:M7 W B la N lcap xs Ek)(aa:N=4*Q)(hN:N<=1000000000)(ab:∀(i:I) (a:A4) (n ao:I),xs[i]?=H (AX a n ao)->n<=1000000000)(hdis:∀(i:I) (v:Aq) (g:I),xs[i]?=H v->Ax v=H g->g≠B/\∀gr,la=Aa gr->g≠gr)(ae:XC xs):Ar As 8 #[A8 B] W λe o=>e=Ak (Ah AP)/\Dw W o (f7 xs):=by
 have b:=T h;have t:=T ab;have k:=T hdis;have L:=T ae;have ay:=T aa;clear h ab hdis ae aa;go_enter func8,ntmps8;go_wp2
 go_loopg[3] Q (λg z wr=>∃n:I,z=C Y n/\D (∃q,n=4*q/\q+g=Q)/\D (M7 wr B la N lcap xs Ek)/\D (Dw W wr<|f7 xs))
 exact⟨0,Z,⟨0,Z,E⟩,b,Dw.refl _ _⟩;obtain⟨n,rfl,y,b,u⟩:=hrel;have A:=b.w2;obtain _|g:=gk
 .have a1:¬(n:J)<(N:J):=by grind [D]
  go_wp2;go_ret;exact⟨Z,u⟩
 have a4:(n:J)<(N:J):=by grind [D]
 have ag:n+4<=N:=by grind [D]
 have d:=eY b ag hN t k 7
 go_wp2_with(first
  |(go_at_call 17;refine Ce d ?_;clear d A;rintro e F ⟨rfl,s⟩;have P:D _:=s;clear s))
 obtain⟨ar,x,S⟩:=AE P;clear P;have l:=T<|eZ b y.out.choose_spec.1 x S k L;have ak:=T<|u.next<|M0 x λg ⟨i,v,_,_,p,r⟩=>⟨i,v,p,r⟩;clear ar x S b u;have A:=l.w2
 go_loopg[4] N (λw z wr=>F=wr/\∃i:I,z=C Y i/\D (i+w=N))
 grind [D];obtain⟨rfl,i,rfl,ac⟩:=hrel;obtain _|w:=gk
 .have a2:¬(i:J)<(N:J):=AY<|AE ac;have R:∀V,Ar As 16 #[C Y n] V λe o=>e=Ak (C Am<|Ek n)/\V=o:=λV=>Ce (WR E) λe o h=>⟨h.1,h.2.symm⟩
  have d:=eY l ag hN t k<|Ek n
  go_wp2_with(first
   |(go_at_call 16;refine Ce (R _) ?_;clear R;rintro e w5 ⟨rfl,rfl⟩)
   |(go_at_call 17;refine Ce d ?_;clear d A;rintro e w6 ⟨rfl,s⟩;have an:D _:=s))
  obtain⟨az,c,aq⟩:=AE an;have am:D<|M7 w6 B la N lcap xs Ek:=by have h:=eZ l y.out.choose_spec.1 c aq k L;rw[tI]at h;exact h
  have al:=T<|ak.next<|M0 c λg ⟨i,v,_,_,p,r⟩=>⟨i,v,p,r⟩;go_roundg g;exact⟨n+4,Bb,(by obtain⟨q,p,r⟩:=AE y;exact⟨q+1,E,E⟩),am,al⟩;omega
 have a5:(i:J)<(N:J):=AY<|AE ac;obtain⟨gr,a,m,ap,rfl,r1,hx,a0⟩:=l.a0 (i:=i) E;have a7:=t.out i a m ap hx;have aj:D (∀j,j<m->¬i/4=n/4->∃g,a=Aa g/\A6 F g j (C Am<|Ek i)):=λj hj a8=>B9;go_wp2
 go_loopg[5] m (λf z wr=>F=wr/\∃j:I,z=C Y j/\D (j+f=m))
 grind [D];obtain⟨rfl,j,rfl,ad⟩:=hrel;obtain _|f:=gk
 .have a3:¬(j:J)<(m:J):=AY<|AE ad;go_wp2;go_roundg w;exact⟨Z,i+1,Bb,B9⟩;omega
 have a6:(j:J)<(m:J):=AY<|AE ad;by_cases af:n<=i/\i<n+4
 .have t1:¬(i:J)<(n:J):=E;have ah:=af.1;have ai:AR (i<n)=AQ:=B7;have t2:¬(n:J)+4<=(i:J):=E;have aw:=af.2;have ax:AR (n+4<=i)=AQ:=B7;go_wp2;go_roundg f;exact⟨Z,j+1,Bb,B9⟩;omega
 have av:¬i/4=n/4:=by grind [D]
 obtain⟨gb,rfl,hb⟩:=aj.out j E av;have t7:(((Ek i:I):J)==7)=AQ:=by unfold Ek;simp;omega
 by_cases au:i<n
 .have t1:(i:J)<(n:J):=E;have ah:=au;have ai:AR (i<n)=AP:=B7;go_wp2;go_roundg f;exact⟨Z,j+1,Bb,B9⟩;omega
 have t1:¬(i:J)<(n:J):=E;have ah:n<=i:=E;have ai:AR (i<n)=AQ:=B7;have t2:(n:J)+4<=(i:J):=E;have aw:n+4<=i:=E;have ax:AR (n+4<=i)=AP:=B7;go_wp2;go_roundg f;exact⟨Z,j+1,Bb,B9⟩;omega
def MO(r:A5 AH):Aq:=match r with
 |.ok (x,_)=>if 9223372036854775807<x then Af #[Ab Al 9223372036854775807,Ah AP,.agg<|Cf (0,0)]else Af #[Ab Al x,Ah AQ,.agg<|Cf (0,0)]
 |.error f=>Af #[Ab Al 0,Ah AQ,.agg<|Cf f]
theorem Qn:∀(k p a x q:I),Cx bs lim p->CZ bs lim k p a=.ok (x,q)->q=p+k/\Cx bs lim q
 |0,p,a,x,q,hi,h=>kfu
 |k+1,p,a,x,q,hi,h=>by
  rw[CZ]at h;rcases hc:bs[p]? with _|c
  .rw[hc]at h;cases h
  rw[hc]at h;simp only[]at h;by_cases b:(p:J)=lim
  .grind
  rw[Cl b]at h;obtain⟨e,d⟩:=Qn k _ _ x q (Eu hi hc b) h;grind
theorem tK(h:(num+1)*256^(g+1)<=18446744073709551616)(c:36028797018963967<num):g=0:=by
 obtain _|g:=g
 .rfl
 have a:(num+1)*256^(g+2)<=18446744073709551616:=h;have b:36028797018963968*256^(g+2)<=(num+1)*256^(g+2):=PM _ E;grind
theorem tL{c:I}(h:(num+1)*256^(g+1)<=18446744073709551616)(a:c<256):(num*256+c+1)*256^g<=18446744073709551616:=by apply CE (PM _<|show num*256+c+1<=(num+1)*256 by omega);grind
def tM(a:k<=8):(0+1)*256^k<=18446744073709551616:=by have:256^k<=256^8:=OA B8 a;omega
theorem TT(W:X)(fm d:J)(k:I)(hk:k<=8)(hl:Lm bs l lim)(hi:Cx bs lim i)(hb:K bs<=281474976710656):Ar As 191 #[.agg<|Ct bs fm d l,C Y i,C Y k] W λab W'=>ab=Ak (MO<|CZ bs lim k i 0)/\A0 W W':=by
 obtain⟨R,s⟩:=CC<|CZ bs lim k i 0;rw[AE s];have ag:=hi.1;have HL:=T hl;have o:=T hi;have cH:=NK bs fm d l;have cB:=OW bs fm d l;unfold Ct;go_enter func191,ntmps191;go_wp2
 go_loopg[9,10,11] k (λg e zo zj wr=>∃j a:I,zj=C Y j/\D (j+g=i+k)/\((e=C Y a/\zo=Ah AQ/\D (a<=9223372036854775807))\/(∃z,g=0/\e=C Y z/\zo=Ah AP/\D (9223372036854775807<a)))/\D ((a+1)*256^g<=18446744073709551616)/\D (IN W (Ct bs fm d l) (O (U W)+1) wr)/\D (CZ bs lim g j a=R)/\D (Cx bs lim j))
 exact⟨i,0,Z,Z,AF ⟨Z,Z,Ex _⟩,tM hk,OV,s,o⟩;obtain⟨j,a,rfl,N,Q,L,b,s,o⟩:=hrel;have aj:=o.1;obtain⟨t,u,c2,v⟩:=Eb b.h;have q:=λV=>cH V j;have aa:=λV=>cB V j 9;have m:=AE s;obtain _|g:=gk
 .rw[CZ]at m;have ad:¬j<i+(k:J):=AY<|AE N;rcases Q with⟨rfl,rfl,P⟩|⟨z,_,rfl,rfl,P⟩
  .have n:D<|MO R=Af #[C Y a,Ah AQ,.agg<|Cf (0,0)]:=by grind [D,MO]
   go_wp2_with(first
    |((with_reducible refine Fb 8 40 rfl rfl (O (U W)+1) (0,0) ?_ ?_ ?_ ?_);exact Z;exact Z;exact b.a))
   have f:=Hs b CT (0,0);refine Ij results191 f (.int _ a) (Ah AQ) Z Z Z Z ⟨?_,f.2⟩;rw[AE n]
  have n:D<|MO R=Af #[C Y 9223372036854775807,Ah AP,.agg<|Cf (0,0)]:=by grind [D,MO]
  go_wp2_with(first
   |((with_reducible refine Fb 8 38 rfl rfl (O (U W)+1) (0,0) ?_ ?_ ?_ ?_);exact Z;exact Z;exact b.a))
  have f:=Hs b CT (0,0);refine Ij results191 f (.int _ _) (Ah AP) Z Z Z Z ⟨?_,f.2⟩;rw[AE n]
 rw[CZ]at m;have ad:j<i+(k:J):=AY<|AE N;obtain⟨rfl,rfl,P⟩:_/\_/\D _:=by
  rcases Q with h|⟨z,h,_⟩
  .exact h
  omega
 rcases Rz (bs:=bs) (lim:=lim) j with al|⟨c,r,w⟩
 .obtain⟨hE,hh⟩:R=.error (D5 bs l j 9)/\CN bs l j=AQ:=by grind [D,IM,Ic,Gk,Hr]
  rw[hh]at q;have n:=T hE;generalize D5 bs l j 9=F at *
  go_wp2_with(first
   |(go_at_call 116;apply Ec (q _) b.next λ_ h=>h.h;intro S p t u c2 v)
   |(go_at_call 84;apply Ec (aa _) p.next λ_ h=>h.h;intro w3 B t u c2 v)
   |((with_reducible refine Fb 8 26 rfl rfl (O (U W)+1) F ?_ ?_ ?_ ?_);exact Z;exact Z;exact B.a))
  have f:=Hs B CT F;refine Ij results191 f (.int _ 0) (Ah AQ) Z Z Z Z ⟨?_,f.2⟩;rw[AE n];rfl
 rw[r]at m;simp only[]at m;have ah:=λV=>Et r V;have ai:=Dk r;rw[Cl w]at m;rw[J4 HL o r w]at q;have y:=T m;have A:=T<|Eu o r w;have af:=c.toNat_lt;have x:=T<|tL L.out E;by_cases ae:36028797018963967<a
 .have ac:=tK L.out ae;subst ac;have d1:AR (36028797018963967<(a:J))=AP:=B7;have HO:D<|9223372036854775807<a*256+c.toNat:=by show _<_;omega
  go_wp2_with(first
   |(go_at_call 116;apply Ec (q _) b.next λ_ h=>h.h;intro S p t u c2 v))
  go_roundg 0;exact⟨_,_,Bb,E,AG ⟨_,Z,Z,Z,HO⟩,x,p,y,A⟩;omega
 have d1:AR (36028797018963967<(a:J))=AQ:=B7;have ak:(a:J)<=36028797018963967:=E
 go_wp2_with(first
  |(go_at_call 116;apply Ec (q _) b.next λ_ h=>h.h;intro S p t u c2 v))
 go_roundg g;exact⟨_,_,Bb,B9,AF ⟨Bb,Z,Bp⟩,x,p,y,A⟩;omega
def f8{a b:AK}(h:a=b):Ending.returned (Ah a)=Ak (Ah b):=by rw[h]
def tN:(List.range 256).all (λc=>AR<|((E7 c).1=8↔(c/32=3/\c%32<=27))/\(((E7 c).1=9\/(E7 c).1=10)↔((c/32=4\/c/32=5)/\c%32<=27)))=AP:=B6
def f9(c:AU):((E7 c.toNat).1=8↔(c.toNat/32=3/\c.toNat%32<=27))/\(((E7 c.toNat).1=9\/(E7 c.toNat).1=10)↔((c.toNat/32=4\/c.toNat/32=5)/\c.toNat%32<=27)):=Dr<|Hh.1 tN c.toNat<|Hi.2 c.toNat_lt
def tO:(List.range 256).all (λc=>AR<|((DD c).1=8↔((160<=c/\c<=191)\/(217<=c/\c<=219)))/\(((DD c).1=9\/(DD c).1=10)↔((128<=c/\c<=159)\/(220<=c/\c<=223))))=AP:=B6
def ff(c:AU):((DD c.toNat).1=8↔((160<=c.toNat/\c.toNat<=191)\/(217<=c.toNat/\c.toNat<=219)))/\(((DD c.toNat).1=9\/(DD c.toNat).1=10)↔((128<=c.toNat/\c.toNat<=159)\/(220<=c.toNat/\c.toNat<=223))):=Dr<|Hh.1 tO c.toNat<|Hi.2 c.toNat_lt
def DS(fm:AI)(c:AH):AH×AH×AH:=if fm=2 then E7 c else DD c
theorem XD(c:AU)(k:I):((c.toNat:J)/32%256==k)=AR (c.toNat/32=k)/\((c.toNat:J)/32==k)=AR (c.toNat/32=k)/\AR ((c.toNat:J)%32<=27)=AR (c.toNat%32<=27):=by have:=c.toNat_lt;grind
theorem tP(W:X)(d l:J)(g:bs[i]?=H c)(h:fm=2\/fm=3):Ar As 168 #[.agg<|Ct bs fm d l,C Y i] W λe f=>e=Ak (Ah<|AR<|(DS fm c.toNat).1=8)/\A0 W f:=by
 have s:=Et g;have k:=(f9 c).1;have j:=(ff c).1;obtain⟨n,m,o⟩:((c.toNat:J)/32%256==3)=_/\((c.toNat:J)/32==3)=_/\_:=XD c 3;have r:=c.toNat_lt;rcases h with rfl|rfl;cases a:AR (c.toNat/32=3)<;>cases b:AR (c.toNat%32<=27)<;>rw[a]at n m<;>rw[b]at o
 rotate_left 4
 rcases(by omega:(0<=(c.toNat:J)/\(c.toNat:J)<=159)\/(160<=(c.toNat:J)/\(c.toNat:J)<=191)\/(192<=(c.toNat:J)/\(c.toNat:J)<=216)\/(217<=(c.toNat:J)/\(c.toNat:J)<=219)\/220<=(c.toNat:J)/\(c.toNat:J)<=255)with⟨a,b⟩|⟨a,b⟩|⟨a,b⟩|⟨a,b⟩|⟨a,b⟩
 all_goals(obtain⟨q,p⟩:D _/\D _:=⟨k,j⟩;unfold Ct;go_enter func168,ntmps168;go_wp2;go_ret;exact⟨f8<|by grind [D,DS],Cm⟩)
theorem tQ(W:X)(d l:J)(k:bs[i]?=H c)(m:fm=2\/fm=3):Ar As 131 #[.agg<|Ct bs fm d l,C Y i] W λe h=>e=Ak (Ah<|AR<|(DS fm c.toNat).1=9\/(DS fm c.toNat).1=10)/\A0 W h:=by
 have v:=Et k;have o:=(f9 c).2;have n:=(ff c).2;obtain⟨r,p,t⟩:((c.toNat:J)/32%256==4)=_/\((c.toNat:J)/32==4)=_/\_:=XD c 4;obtain⟨s,q,_⟩:((c.toNat:J)/32%256==5)=_/\((c.toNat:J)/32==5)=_/\_:=XD c 5;have u:=c.toNat_lt;rcases m with rfl|rfl;cases a:AR (c.toNat/32=4)<;>cases b:AR (c.toNat%32<=27)<;>cases j:AR (c.toNat/32=5)<;>rw[a]at r p<;>rw[b]at t<;>rw[j]at s q
 rotate_left 8
 rcases(by omega:(0<=(c.toNat:J)/\(c.toNat:J)<=127)\/(128<=(c.toNat:J)/\(c.toNat:J)<=159)\/(160<=(c.toNat:J)/\(c.toNat:J)<=219)\/(220<=(c.toNat:J)/\(c.toNat:J)<=223)\/224<=(c.toNat:J)/\(c.toNat:J)<=255)with⟨a,b⟩|⟨a,b⟩|⟨a,b⟩|⟨a,b⟩|⟨a,b⟩
 all_goals(obtain⟨g,f⟩:D _/\D _:=⟨o,n⟩;unfold Ct;go_enter func131,ntmps131;go_wp2;go_ret;exact⟨f8 (by have:=AE g;have:=AE f;grind [DS]),Cm⟩)
theorem fh{P:Program}{fn:Func}{p q:Tmp}{ty ty2:AN}(h:fn.results=#[.cell p ty,.cell q ty2]){tmps:A3}{w:X}{g g2:I}{t t2:AN}{cs cs2:A3}{fr fr2:I×I}{d d2:TypeDesc}(l:tmps.getD p AO=A8 g)(i:w.heap[g]?=H (M cs t fr))(n:P.underlying ty=H d)(c:(match d with|.struct _|.array _ _=>AP|_=>AQ)=AP)(hi:(P.info? ty).map (·.size)=H cs.size)(m:tmps.getD q AO=A8 g2)(j:w.heap[g2]?=H (M cs2 t2 fr2))(o:P.underlying ty2=H d2)(f:(match d2 with|.struct _|.array _ _=>AP|_=>AQ)=AP)(k:(P.info? ty2).map (·.size)=H cs2.size):(results fn tmps).run P w=.ok (Af #[.agg cs,.agg cs2]) w:=by have e:(results fn tmps).run P w=((asAddr<|tmps.getD p AO).run P w).andThen λa s=>((loadVar ty a).run P s).andThen λv u=>((asAddr<|tmps.getD q AO).run P u).andThen λb x=>((loadVar ty2 b).run P x).andThen λr y=>.ok (Af #[v,r]) y:=Bm;rw[e,l,m];simp only[asAddr,Ge,FZ,Jy w g t ty cs fr d i n c hi,Jy w g2 t2 ty2 cs2 fr2 d2 j o f k]
def Da(k n q:AI)(o:AK):A3:=#[Ab Al k,Ab Al n,Ab Al q,Ah o]
def tR:(prog.info? 237).map (·.size)=H 4:=B6
theorem TU{k n:J}{o:AK}:(prog.info? 237).map (·.size)=H (Da k n q o).size:=tR
def tS{k n:J}{o:AK}:(Da 0 0 0 AQ).size=(Da k n q o).size:=rfl
theorem fj{k n:J}{o:AK}:(Da k n q o).all (·.oneCell')=AP:=by simp[Da,Value.oneCell']
def tT{o:Oper}{a:Act}{w:X}{y:I}(d:o.guard=Ao)(e:o.op=.store 237 (.tmp x) (.tmp y)){k n:J}{b:AK}(hx:a.eval (.tmp x)=A8 g)(hy:a.eval (.tmp y)=.agg (Da k n q b))(c:A7 w g (Da 0 0 0 AQ) 237)(h:wpList As ops Q rest (a.put o.dst AO)<|AD w g<|Da k n q b):wpList As ops Q (o::rest) a w :=
 D8 d _ _ _ e g _ hx hy _ _ c (TU) (tS) (fj) h
def tU{p q:Tmp}{w:X}{k n:J}{b:AK}(h:fn.results=#[.cell p 237,.cell q 103])(a:A7 w g (Da k n z b) 237)(c:A7 w g2 (Cf F) 103)(d:tmps.getD p AO=A8 g)(e:tmps.getD q AO=A8 g2):(results fn tmps).run As w=.ok (Af #[.agg<|Da k n z b,.agg<|Cf F]) w :=
 fh h d a underlying237 rfl (TU) e c underlying103 rfl<|KE
theorem sH{S:X->Prop}{listed:Array AK}{a:Act}{w:X}(i x y:I){k n:J}{b:AK}(e:(Region.ready md ops listed,ops[i]?.map λo=>(Region.wanted o<|yielded ops a.tmps,o.op,o.dst),a.eval<|.tmp x,a.eval<|.tmp y)=([i],H (AP,.store 237 (.tmp x)<|.tmp y,Ao),A8 g,.agg<|Da k n q b))(d:A7 w g (Da 0 0 0 AQ) 237)(c:S<|AD w g<|Da k n q b)(h:wpAnyH As md ops Q S fuel (Ay listed i AP) a<|AD w g<|Da k n q b):wpAnyH As md ops Q S (fuel+1) listed a w:=by grind [RK,TU,fj]
def JQ{p q:Tmp}{A:Act}{w:X}{k n:J}{b:AK}{R:Ending->X->Prop}{B:Prop}(h:fn.results=#[.cell p 237,.cell q 103])(a:A7 w g (Da k n z b) 237/\A7 w g2 (Cf F) 103/\B)(d:A.tmps.getD p AO=A8 g)(e:A.tmps.getD q AO=A8 g2)(c:A.defers=[])(f:R (Ak<|Af #[.agg<|Da k n z b,.agg<|Cf F]) w):bodyPost As fn R .ret A w:=CS (tU h a.1 a.2.1 d e) c f
def tV{k n:J}{o:AK}{fr:I×I}(h:V.heap[g]?=H (M (Da k n q o) t fr)):A6 V g 0 (C Y k)/\A6 V g 1 (C Y n)/\A6 V g 2 (C Y q)/\A6 V g 3 (Ah o):=⟨Cc h 0,Cc h 1,Cc h 2,Cc h 3⟩
structure Jl(W:Ap)(A:A3)(V:Ap):Prop where
 h:V.heap[Au (Av W)]?=An (Aj A 115)
 c:V.heap[Au (Av W)+1]?=An (Aj (Da 0 0 0 AQ) 237)
 a:V.heap[Au (Av W)+2]?=An (Aj (Cf (0,0)) 103)
 ac:A0 W V
theorem Jl.next(h:Jl W A V)(hb:A0 V V'):Jl W A V' :=
 ⟨Ca (Co hb _<|Cd h.h) h.h,Ca (Co hb _<|Cd h.c) h.c,Ca (Co hb _<|Cd h.a) h.a,Cs h.ac<|CG hb h.ac.size⟩
theorem Jl.drew(h:Jl W A V):Jl W A V.drew:=⟨h.h,h.c,h.a,h.ac.drew⟩
def Jl.size(h:Jl W A V):O (U W)+3<=O (U V):=Cd h.a
def tW:Jl W A (Az (Az (Az W<|M A 115)<|M (Da 0 0 0 AQ) 237)<|M (Cf (0,0)) 103) :=
 ⟨Ca (Ca (CB _ _ _ B7)<|CB _ _ _ Ba)<|Cj _,Ca (CB _ _ _ Ba)<|B2<|Cj (Az W<|M A 115) (o:=(M (Da 0 0 0 AQ) 237)),B2<|Cj (Az (Az W<|M A 115)<|M (Da 0 0 0 AQ) 237) (o:=(M (Cf (0,0)) 103)),((Cm).alloc Ba _).alloc B7 _⟩
def zH{o:Oper}{a:Act}{w:X}(x:I){y:I}(d:o.guard=Ao)(e:o.op=.store 237 (.tmp x) (.tmp y))(g:I)(k n q:J)(b:AK)(c:a.eval (.tmp x)=A8 g/\a.eval (.tmp y)=.agg (Da k n q b)/\A7 w g (Da 0 0 0 AQ) 237)(h:wpList As ops Q rest (a.put o.dst AO)<|AD w g<|Da k n q b):wpList As ops Q (o::rest) a w:=tT d e c.1 c.2.1 c.2.2 h
def Jl.ck{f:FuncId}{args:A3}{r:Ending}{Q:Ending->X->Prop}(h:Jl W (Ct bs fm d l) V)(c:Ar P f args V λe a=>e=r/\A0 V a)(k:∀w,D (Jl W (Ct bs fm d l) w)->AC w ⟨O<|U W,0,Ao⟩=(#[Ae ⟨Aw bs⟩,C Y fm,C Y d,C Y l]:A3)[0]?->AC w ⟨O<|U W,1,Ao⟩=(#[Ae ⟨Aw bs⟩,C Y fm,C Y d,C Y l]:A3)[1]?->AC w ⟨O<|U W,2,Ao⟩=(#[Ae ⟨Aw bs⟩,C Y fm,C Y d,C Y l]:A3)[2]?->AC w ⟨O<|U W,3,Ao⟩=(#[Ae ⟨Aw bs⟩,C Y fm,C Y d,C Y l]:A3)[3]?->Q r w):Ar P f args V Q:=Ec c h.next (λ_ h=>h.h) k
def KP(W:X)(bs:A1)(fm d l:J):D<|Jl W (Ct bs fm d l)<|Az (Az (Az W<|M #[Ae ⟨Aw bs⟩,C Y fm,C Y d,C Y l] 115)<|M #[C Y 0,C Y 0,C Y 0,Ah AQ] 237)<|M #[C Y 0,C Y 0] 103:=tW
def Jl.ai(h:Jl W A V)(y:A3)(x:J×J):(AD (AD V (O (U W)+1) y) (O (U W)+2)<|Cf x).heap[O (U W)+1]?=H (M y 237)/\(AD (AD V (O (U W)+1) y) (O (U W)+2)<|Cf x).heap[O (U W)+2]?=H (M (Cf x) 103)/\A0 W (AD (AD V (O (U W)+1) y) (O (U W)+2)<|Cf x):=by
 refine⟨?_,?_,Dq (Dq h.ac E) E⟩
 .rw[Do _ _ _ _ E];exact CR _ _ _ _ _ _ h.c
 exact CR _ _ _ _ _ _<|sx E h.a
def TV(R:A5 AH)(nv:AI)(ov:AK)(F:AI×AI):Prop :=
 0<=nv/\nv<=9223372036854775807/\(∀x q,R=.ok (x,q)->F=(0,0)/\nv=min (x:AI) 9223372036854775807/\ov=AR (9223372036854775807<x))/\(∀f,R=.error f->F=f)
theorem fk(R:A5 I):∃b c F,MO R=Af #[C Y b,Ah c,.agg<|Cf F]/\TV R b c F:=by
 obtain f|y:=R
 .exact⟨0,AQ,f,Z,E,E,(λx q e=>keC),(λa e=>by injection e)⟩
 obtain⟨x,q⟩:=y;unfold MO;simp only[];by_cases h:9223372036854775807<x
 .rw[Cp h];refine⟨_,_,_,Z,E,E,(λg d e=>?_),(λa e=>keC)⟩;grind
 rw[Cl h];refine⟨_,_,_,Z,E,E,(λg d e=>?_),(λa e=>keC)⟩;grind
def J6(so:AH):AI:=if so=2 then 1 else if so=3 then 2 else if so=4\/so=5\/so=6 then 3 else if so=7 then 5 else if so=8 then 4 else if so=9 then 6 else if so=10 then 7 else 0
def nR(so w x:AH):AI:=if so=5 then GF x w else if so=6 then -1-min (x:AI) 9223372036854775807 else min (x:AI) 9223372036854775807
def Im(so x:AH):AK:=if so=5 then AQ else AR (9223372036854775807<x)
def Eo(fm:AI)(bs:A1)(lim:AI)(i:AH):AS (AI×AI)<|AH×AH×AH×AH:=match bs[i]? with
 |none=>.error (9,(i:AI))
 |some c=>if(i:AI)=lim then .error (8,(i:AI))else if(DS fm c.toNat).1=0 then .error (9,(i:AI))else match CZ bs lim (DS fm c.toNat).2.1 (i+1) (DS fm c.toNat).2.2 with
  |.error f=>.error f
  |.ok (x,q)=>.ok ((DS fm c.toNat).1,(DS fm c.toNat).2.1,x,q)
def Ew(r:AS (AI×AI)<|AH×AH×AH×AH)(e:Ending):Prop :=
 ∃a n q o F,e=Ak (Af #[.agg<|Da a n q o,.agg<|Cf F])/\(∀so w x p,r=.ok (so,w,x,p)->a=J6 so/\n=nR so w x/\q=(p:AI)/\o=Im so x/\F=(0,0))/\(∀f,r=.error f->F=f)
theorem NX{r:AS (J×J)<|I×I×I×I}{f:J×J}(h:r=.error f){n:J}{o:AK}:Ew r (Ak<|Af #[.agg<|Da a n q o,.agg<|Cf f]) :=
 ⟨a,n,q,o,f,rfl,(λc w x p e=>by rw[h]at e;cases e),(λb e=>B9)⟩
theorem MP{r:AS (J×J)<|I×I×I×I}{w:I}{n:J}{o:AK}(h:r=.ok (so,w,x,p))(c:a=J6 so)(d:n=nR so w x)(g:q=(p:J))(f:o=Im so x):Ew r (Ak<|Af #[.agg<|Da a n q o,.agg<|Cf (0,0)]) :=
 ⟨a,n,q,o,(0,0),rfl,(λj k l i e=>B9),(λb e=>by rw[h]at e;cases e)⟩
theorem ft(t:bs[i]?=H c)(v:¬(i:J)=lim)(hi:Cx bs lim<|i+1)(u:DS fm c.toNat=(so,k,0))(s:¬so=0){nv n:J}{ov o:AK}(b:TV (CZ bs lim k (i+1) 0) nv ov F)(j:a=J6 so)(r:q=(i:J)+1+k)(l:∀x:I,nv=min (x:J) 9223372036854775807->n=nR so k x)(m:∀x:I,ov=AR (9223372036854775807<x)->o=Im so x):Ew (Eo fm bs lim i)<|Ak<|Af #[.agg<|Da a n q o,.agg<|Cf F]:=by
 have e:Eo fm bs lim i=match CZ bs lim k (i+1) 0 with
  |.error f=>.error f
  |.ok (x,q)=>.ok (so,k,x,q):=by
  grind [Eo]
 rcases hr:CZ bs lim k (i+1) 0 with f|y
 .rw[hr]at e;have:=b.2.2.2 f hr;grind [NX]
 obtain⟨x,p⟩:=y;rw[hr]at e;obtain⟨d,g,h⟩:=b.2.2.1 x p hr;subst d;refine MP e j (l x g) ?_<|m x h;have:=(Qn k _ 0 x p hi hr).1;rw[r,this];omega
def Qo(b:bs[i]?=H c)(e:¬(i:J)=lim)(d:DS fm c.toNat=(so,0,x))(a:¬so=0):Eo fm bs lim i=.ok (so,0,x,i+1):=by unfold Eo;rw[b];simp only[];rw[Cl e,d,Cl a];rfl
theorem XE(a:bs[i]?=H c)(d:¬(i:J)=lim)(b:(DS fm c.toNat).1=0):Eo fm bs lim i=.error (9,(i:J)):=by grind [Eo]
def tX(R:A5 AH)(kd:AI)(fn:AI->AI)(q:AI)(e:Ending):Prop:=∃nv ov F,e=Ak (Af #[.agg<|Da kd (fn nv) q ov,.agg<|Cf F])/\TV R nv ov F
def Lu(n:AH):AI:=if n=0 then 3 else if n=1 then 3 else if n=2 then 5 else if n=3 then 4 else if n=4 then 6 else 7
def fw(w:X)(a:n<6):(Az w<|M #[C Y 3,C Y 3,C Y 5,C Y 4,C Y 6,C Y 7] 3).cell? ⟨O<|U w,n,Ao⟩=H (C Y<|Lu n):=by
 rw[Cc (Cj _) n]
 match n,a with
 |0,_=>rfl
 |1,_=>rfl
 |2,_=>rfl
 |3,_=>rfl
 |4,_=>rfl
 |5,_=>rfl
def tY(L:k<=8)(hl:Lm bs l lim)(hi:Cx bs lim<|i+1)(hb:K bs<=200000000):Ar As 192 #[.agg<|Ct bs fm d l,C Y i,C Y kd,C Y k] W λe A=>tX (CZ bs lim k (i+1) 0) kd (λc=>c) ((i:J)+1+k) e/\A0 W A:=by
 have p:=λV=>TT V (bs:=bs) fm d (l:=l) (i:=(i+1)) k L hl hi E;unfold Ct at p;obtain⟨c,f,F,B,r⟩:=fk<|CZ bs lim k (i+1) 0;rw[B]at p;have v:=p;unfold Ct at v;have Q:=r.1;have R:=r.2.1;have x:=T r;have z:=KP W bs fm d l;have P:=hi.1;unfold Ct;go_enter func192,ntmps192
 go_wp2_with(first
  |(go_at_call 191;refine ck (v _) z.next ?_;intro s u)
  |((with_reducible refine zF 12 21 rfl rfl (O<|U s) F ?_ ?_);exact⟨Z,Z,Cj s⟩;refine FA ?_;intro N t;have o:=T<|t▸u.next (KO);have y:=T<|t▸CR _ _ _ _ _ _ (Cj _);have m:=T u.size;generalize O (U s)=M at *))
 refine Dl (S:=λh=>A7 h M (Cf F) 103) (y) B6 λa=>Ch 8 30 (.agg<|Cf F) Z (λh j=>yF 12 j Z Z) a <| Cb 0 22 (C Y kd) a <| Cb 1 23 (C Y c) a <| Cb 2 24 (C Y i) a <| Ch 3 25 (C Y<|(i:J)+1) Z (λh j=>Bo) a <| Cb 4 26 (C Y k) a <| Ch 5 27 (C Y<|(i:J)+1+k) Z (λh j=>Bo) a <| Cb 6 28 (Ah f) a <| Ch 7 29 (.agg<|Da kd c ((i:J)+1+k) f) Z (λh j=>by unfold Da;go_simp) a <| sH 9 8 29 (g:=(O (U W)+1)) (k:=kd) (n:=c) (q:=((i:J)+1+k)) (b:=f) B6 (o.drew.c) ((Do _ (O (U W)+1) M (Da kd c ((i:J)+1+k) f)<|AY<|AE m).trans a) ?_;refine sF 10 9 30 (g:=(O (U W)+2)) (F:=F) B6 (sx E o.drew.a) (sx (AY<|AE m)<|(Do _ (O (U W)+1) M (Da kd c ((i:J)+1+k) f)<|AY<|AE m).trans a) <| CK ?_;go_simp;go_wp2;have w:=o.drew.ai (Da kd c ((i:J)+1+k) f)<|F;refine JQ results192 w Z Z Z ⟨?_,w.2.2⟩;exact⟨c,f,F,Z,x⟩
def fy{R:AS (J×J)<|I×I×I×I}{x:J×J}(y:D5 bs l i 9=x)(z:Ew R<|Ak<|Af #[.agg<|Da 0 0 0 AQ,.agg<|Cf x])(k:CN bs l i=AQ\/(CN bs l i=AP/\∃c,bs[i]?=H c/\((c.toNat/32=7/\(c.toNat%32<20\/22<c.toNat%32))\/c.toNat/32=6\/(c.toNat/32<6/\27<c.toNat%32)))):Ar As 166 #[.agg<|Ct bs fm d l,C Y i] W λe t=>Ew R e/\A0 W t:=by
 have r:=NJ fm d y;have q:=KP W bs fm d l;have p:=T z;unfold Ct;rcases k with j|⟨j,c,s,k⟩
 rotate_left
 .have ac:=Et s;have ab:=Dk s;have aa:=c.toNat_lt;obtain⟨n,F⟩:=DF<|c.toNat/32;obtain⟨m,B⟩:=DF<|c.toNat%32;rw[F,B]at k;have hq:(c.toNat:J)/32=(n:J):=E;have hr:(c.toNat:J)%32=(m:J):=E;have A:(((n:J)==7)=AP/\AR ((m:J)<20)=AP)\/(((n:J)==7)=AP/\AR ((m:J)<20)=AQ/\AR (22<(m:J))=AP)\/(((n:J)==7)=AQ/\((n:J)==6)=AP)\/(((n:J)==7)=AQ/\((n:J)==6)=AQ/\AR (27<(m:J))=AP):=B7;have h:=GI fm d j;rcases A with⟨o,S⟩|⟨o,S,Q⟩|⟨o,P⟩|⟨o,P,Q⟩
  all_goals
   go_enter func166,ntmps166
   go_wp2_with(first
    |(go_at_call 116;refine q.ck (h _) ?_;intro f b u v c2 w;have L:O (U W)<O (U f):=keZ;have N:O (U W)<O (U f)+1:=E)
    |(go_at_call 84;refine(r _).mono ?_;rintro e V ⟨rfl,g⟩;have a:=T<|(by first|exact b.next g|exact(b.next<|Cm).next g))
    |((with_reducible refine zH 4 rfl rfl (O (U W)+1) 0 0 0 AQ ?_ ?_);exact⟨Z,Z,a.c⟩)
    |((with_reducible refine zF 5 _ rfl rfl (O (U W)+2) x ?_ ?_);exact⟨Z,Z,sx E a.a⟩))
   refine JQ results166 (a.ai _ _) Z Z Z ⟨p,(a.ai _ _).2.2⟩
 have h:=GI fm d j;go_enter func166,ntmps166
 go_wp2_with(first
  |(go_at_call 116;refine q.ck (h _) ?_;intro f b u v c2 w;have L:O (U W)<O (U f):=keZ;have N:O (U W)<O (U f)+1:=E)
  |(go_at_call 84;refine(r _).mono ?_;rintro e V ⟨rfl,g⟩;have a:=T<|b.next g)
  |((with_reducible refine zH 4 rfl rfl (O (U W)+1) 0 0 0 AQ ?_ ?_);exact⟨Z,Z,a.c⟩)
  |((with_reducible refine zF 5 _ rfl rfl (O (U W)+2) x ?_ ?_);exact⟨Z,Z,sx E a.a⟩))
 refine JQ results166 (a.ai _ _) Z Z Z ⟨p,(a.ai _ _).2.2⟩
def RT{R:AS (J×J)<|I×I×I×I}(h:bs[i]?=H c)(b:CN bs l i=AP)(hb:At bs<=200000000){K N:J}(r:Ew R<|Ak<|Af #[.agg<|Da K N ((i:J)+1) AQ,.agg<|Cf (0,0)])(f:∃n m:I,c.toNat/32=n/\c.toNat%32=m/\((n=7/\m=20/\K=1/\N=0)\/(n=7/\m=21/\K=2/\N=0)\/(n=7/\m=22/\K=0/\N=0)\/(n<6/\m<24/\n=1/\K=Lu n/\N = -1-(m:J))\/(n<6/\m<24/\¬n=1/\K=Lu n/\N=m))):Ar As 166 #[.agg<|Ct bs fm d l,C Y i] W λe q=>Ew R e/\A0 W q:=by
 have A:=Et h;have z:=Dk h;have y:=c.toNat_lt;have g:=GI fm d b;have p:=KP W bs fm d l;have o:=T r;obtain⟨n,m,Q,B,f⟩:=f;have L:(c.toNat:J)/32=(n:J):=E;have P:(c.toNat:J)%32=(m:J):=E;unfold Ct;rcases f with⟨rfl,rfl,rfl,rfl⟩|⟨rfl,rfl,rfl,rfl⟩|⟨rfl,rfl,rfl,rfl⟩|⟨j,s,b,rfl,rfl⟩|⟨j,s,b,rfl,rfl⟩
 rotate_right 2
 all_goals
  try
   have S:=λw=>fw w j;have t7:((n:J)==7)=AQ:=B7;have t6:((n:J)==6)=AQ:=B7;have tg:AR (27<(m:J))=AQ:=B7;have tl:AR ((m:J)<24)=AP:=B7;have F:(n:J)<6:=E
   first
    |have t:((n:J)==1)=AP:=B7
    |have t:((n:J)==1)=AQ:=B7
   clear b
  go_enter func166,ntmps166
  go_wp2_with(first
   |(go_at_call 116;refine p.ck (g _) ?_;clear g;intro k a u v c2 x;have V:O (U W)<O (U k):=keT;have n2:O (U W)<O (U k)+1:=E)
   |((with_reducible refine zH 4 rfl rfl (O (U W)+1) 1 0 ((i:J)+1) AQ ?_ ?_);exact⟨rfl,rfl,(a.next<|Cm).c⟩)
   |((with_reducible refine zH 4 rfl rfl (O (U W)+1) 2 0 ((i:J)+1) AQ ?_ ?_);exact⟨rfl,rfl,(a.next<|Cm).c⟩)
   |((with_reducible refine zH 4 rfl rfl (O (U W)+1) 0 0 ((i:J)+1) AQ ?_ ?_);exact⟨rfl,rfl,(a.next<|Cm).c⟩)
   |((with_reducible refine zH 4 rfl rfl (O (U W)+1) (Lu n) (-1-(m:J)) ((i:J)+1) AQ ?_ ?_);exact⟨rfl,rfl,(a.next<|Cm).c⟩)
   |((with_reducible refine zH 4 rfl rfl (O (U W)+1) (Lu n) m ((i:J)+1) AQ ?_ ?_);exact⟨rfl,rfl,(a.next<|Cm).c⟩)
   |((with_reducible refine zF 5 _ rfl rfl (O (U W)+2) (0,0) ?_ ?_);exact⟨rfl,rfl,sx E (a.next<|Cm).a⟩))
  refine JQ results166 ((a.next<|Cm).ai _ _) rfl rfl rfl ⟨o,((a.next<|Cm).ai _ _).2.2⟩
def tZ(W:X){R:AS (J×J)<|I×I×I×I}(L:bs[i]?=H c)(h1:CN bs l i=AP){m:I}(k:I)(g:J->J)(hs:c.toNat/32=n)(hn:n<6)(hm:c.toNat%32=m)(hl:Lm bs l lim)(hi:Cx bs lim<|i+1)(hb:K bs<=200000000)(hg:(n=1/\g=λx=>-1-x)\/(¬n=1/\g=λx=>x))(hk:(m=24/\k=1)\/(m=25/\k=2)\/(m=26/\k=4)\/(m=27/\k=8))(a:∀b f F,TV (CZ bs lim k (i+1) 0) b f F->Ew R (Ak<|Af #[.agg<|Da (Lu n) (g b) ((i:J)+1+k) f,.agg<|Cf F])):Ar As 166 #[.agg<|Ct bs fm d l,C Y i] W λe W'=>Ew R e/\A0 W W':=by
 have ag:=Et L;have ae:=Dk L;have ad:=c.toNat_lt;have hq:(c.toNat:J)/32=(n:J):=E;have hr:(c.toNat:J)%32=(m:J):=E;have t7:((n:J)==7)=AQ:=B7;have t6:((n:J)==6)=AQ:=B7;have kt:=λw=>fw w hn;have ai:(n:J)<6:=E;have h:=GI fm d h1;have A:=λV=>TT V fm d k E hl hi E;unfold Ct at *;obtain⟨b,f,F,ac,r⟩:=fk<|CZ bs lim k (i+1) 0;rw[ac]at A;have aj:=r.1;have ak:=r.2.1;have af:=hi.1;have v:=T<|a b f F r;obtain⟨N,o⟩:=DF<|g b;rw[o]at v;have hw:(((n:J)==1)=AP/\N = -1-b)\/(((n:J)==1)=AQ/\N=b):=by
  rcases hg with⟨aa,rfl⟩|⟨aa,rfl⟩
  .exact AF ⟨B7,o.symm⟩
  exact AG ⟨B7,o.symm⟩
 have HX:=KP W bs fm d l;rcases hk with⟨rfl,rfl⟩|⟨rfl,rfl⟩|⟨rfl,rfl⟩|⟨rfl,rfl⟩
 let kk:J:=1;rotate_left
 let kk:J:=2;rotate_left
 let kk:J:=4;rotate_left
 let kk:J:=8;rotate_left
 all_goals
  have ah:0<=kk/\kk<=8:=Dr Z;rcases hw with⟨t1,rfl⟩|⟨t1,o⟩
 all_goals
  go_enter func166,ntmps166
  go_wp2_with(first
   |(go_at_call 116;refine HX.ck (h _) ?_;intro P y c0 c1 c2 c3;have n1:O (U W)<O (U P):=(AY y.size);have n2:O (U W)<O (U P)+1:=E)
   |(go_at_call 191;refine(A _).mono ?_;rintro e s ⟨rfl,ab⟩;have z:=T<|((y.next<|Cm).next (Cm)).next ab)
   |((with_reducible refine zF 13 95 rfl rfl (O<|U s) F ?_ ?_);exact⟨Z,Z,Cj s⟩;refine FA ?_;intro V4 t;have p:=T<|t▸z.next (KO);have Q:=T<|t▸CR _ _ _ _ _ _ (Cj _);have u:=T z.size;generalize O (U s)=M at *))
  first
   |subst o
   |generalize -1-b=N at *
  refine Dl (S:=λj=>A7 j M (Cf F) 103) (Q) B6 λa=>Ch 8 108 (.agg<|Cf F) Z (λj q=>yF 13 q Z Z) a <| Cb 0 100 (C Y<|Lu n) a <| Cb 1 101 (C Y N) a <| Cb 2 102 (C Y i) a <| Ch 3 103 (C Y<|(i:J)+1) Z (λj q=>Bo) a <| Cb 4 104 (C Y kk) a <| Ch 5 105 (C Y<|(i:J)+1+kk) Z (λj q=>Bo) a <| Cb 6 106 (Ah f) a <| Ch 7 107 (.agg<|Da (Lu n) N ((i:J)+1+kk) f) Z (λj q=>by unfold Da;go_simp) a ?_;have B:=(Do _ (O (U W)+1) M (Da (Lu n) N ((i:J)+1+kk) f)<|AY<|AE u).trans a;refine sH 9 4 107 B6 (p.drew.c) B ?_;refine sF 10 5 108 (g:=(O (U W)+2)) (F:=F) B6 (sx E p.drew.a) (sx (AY<|AE u) B) <| CK ?_;go_simp;go_wp2;refine JQ results166 (p.drew.ai _ _) Z Z Z ⟨v,(p.drew.ai _ _).2.2⟩
def Ki(c:AU):AI:=if 128<=c.toNat then(c.toNat:AI)-256 else(c.toNat:AI)
def TW(R:A5 AH)(c:AU)(i k:AH)(e:Ending):Prop :=
 ∃a n q o F,e=Ak (Af #[.agg<|Da a n q o,.agg<|Cf F])/\(∀y p,R=.ok (y,p)->a=3/\n=Ki c*256^(k-1)+y/\q=(i:AI)+1+k/\o=AQ/\F=(0,0))/\(∀f,R=.error f->F=f)
def fz(hl:Lm bs l lim):∀(k p a:I) (f:J×J),Cx bs lim p->CZ bs lim k p a=.error f->∃d:I,f.2=(d:J)/\D5 bs l d f.1=f/\¬f.1=0
 |0,p,a,f,_,h=>by rw[CZ]at h;cases h
 |k+1,p,a,f,hi,h=>by
  rw[CZ]at h;rcases hc:bs[p]? with _|c
  .rw[hc]at h;injection h with h;subst h;exact⟨p,Z,IM hi.1 hc 9,Ba⟩
  rw[hc]at h;simp only[]at h;by_cases b:(p:J)=lim
  .rw[Cp b]at h;injection h with h;subst h;exact⟨p,Z,Gk hl hc b 8,Ba⟩
  rw[Cl b]at h;exact fz hl k _ _ f (Eu hi hc b) h
def u6(c:AU):-128<=Ki c/\Ki c<=127:=by have:=c.toNat_lt;unfold Ki;split<;>omega
def fA(c:AU)(j:I)(e:j<=7):-9223372036854775808<=Ki c*256^j/\Ki c*256^j+256^j<=9223372036854775808:=by obtain⟨b,d⟩:=u6 c;have a:j=0\/j=1\/j=2\/j=3\/j=4\/j=5\/j=6\/j=7:=E;rcases a with rfl|rfl|rfl|rfl|rfl|rfl|rfl|rfl<;>simp<;>omega
def u7(W:X)(fm d:J)(p:1<=k)(S:k<=8)(c:AU)(hl:Lm bs l lim)(hb:K bs<=200000000)(R:i+1<K bs)(hi:Cx bs lim<|i+2){f:J×J}(a:CZ bs lim (k-1) (i+2) 0=.error f):Ar As 193 #[.agg<|Ct bs fm d l,C Y i,C Y k] W λe j=>TW (CZ bs lim (k-1) (i+2) 0) c i k e/\A0 W j:=by
 have L:∀V,Ar _ _ #[Ag #[.string _,.int _ fm,.int _ d,.int _ l],.int _<|i+2,.int _ _] V _:=λV=>by have h:=TT V fm d (k-1) E hl hi E;rw[a,show(k-1:I)=(k:J)-1 by omega]at h;unfold MO at h;simp only[]at h;exact h
 obtain⟨N,B,x,A⟩:=fz hl _ _ 0 f hi a;have aa:(f.1==0)=AQ:=keH;have w:∀V,Ar _ 84 #[.agg _,.int _ _,.int _ _] V λe j=>e=Ak (.agg<|Cf f)/\Below _ V j:=λV=>by have h:=M1 V bs fm d l N f.1;rw[x,<-B]at h;exact h
 have F:=KP W bs fm d l;have o:=T a;clear hl hi a B x A;unfold Ct;go_enter func193,ntmps193
 go_wp2_with(first
  |(go_at_call 191;apply ck (L _) F.next;intro m q)
  |(go_at_call 84;apply r.ck<|w _;clear w t u c2 v;intro w5 g t u c2 v)
  |((with_reducible refine zF 10 22 rfl rfl (O<|U m) (f) ?_ ?_);exact⟨Z,Z,Cj m⟩;apply FA;intro s b;have r:=T<|b▸q.next (KO);have n:=T<|b▸CR _ _ _ _ _ _ (Cj _);have P:=T q.size;clear b;generalize O (U m)=M at *;have u0:AC s _=H (.int _ _):=Cc n 0;have u1:AC s _=H (.int _ _):=Cc n 1;obtain⟨t,u,c2,v⟩:=Eb r.h)
  |((with_reducible refine zH 6 (y:=26) rfl rfl (O (U W)+1) 0 0 0 AQ ?_ ?_);exact⟨Z,Z,g.c⟩)
  |((with_reducible refine zF 7 32 rfl rfl (O (U W)+2) (f) ?_ ?_);exact⟨Z,Z,sx E g.a⟩))
 have z:=g.ai (Da 0 0 0 AQ)<|f;refine JQ results193 z Z Z Z ⟨?_,z.2.2⟩;exact⟨0,0,0,AQ,f,Z,(λy ab e=>by rw[AE o]at e;cases e),(λQ e=>by rw[AE o]at e;injection e)⟩
def u9(W:X)(fm d:J)(ak:1<=k)(hk:k<=8)(hl:Lm bs l lim)(hb:K bs<=200000000)(ah:i+1<K bs)(hi:Cx bs lim<|i+2)(F:bs[i+1]?=H c){y:I}(n:CZ bs lim (k-1) (i+2) 0=.ok (y,p)):Ar As 193 #[.agg<|Ct bs fm d l,C Y i,C Y k] W λe S=>TW (CZ bs lim (k-1) (i+2) 0) c i k e/\A0 W S:=by
 have ai:∀V,(Instr.index 9 _<|.int _<|i+1).run _ V=.ok _ V:=λV=>Et F V;have ag:=c.toNat_lt;have ht:(AR (128<=(c.toNat:J))=AP/\D (Ki c=c.toNat-256))\/(AR (128<=(c.toNat:J))=AQ/\D (Ki c=c.toNat)):=by
  by_cases h:128<=c.toNat
  .exact AF ⟨B7,Cp h⟩
  exact AG ⟨B7,Cl h⟩
 have cG:∀V,Ar _ _ #[Ag #[.string _,.int _ fm,.int _ d,.int _ l],.int _<|i+2,.int _ _] V _:=λV=>by have h:=TT V fm d (k-1) E hl hi E;rw[n,show(k-1:I)=(k:J)-1 by omega]at h;unfold MO at h;simp only[]at h;rw[Cl (by have:=RD _ _ _ _ _ n;have:(0+1)*256^(k-1)<=(0+1)*256^7:=Nat.mul_le_mul_left _<|OA B8 E;omega)]at h;exact h
 have P:=KP W bs fm d l;have z:=T n;have Q:D<|(y:J)<256^(k-1):=by
  show _<_;have:=RD _ _ _ _ _ n;rw[Gf,Nat.one_mul]at this
  exact_mod_cast this
 clear hl hi n F;unfold Ct;rcases ht with⟨ae,o⟩|⟨ae,o⟩
 all_goals
  go_enter func193,ntmps193
  go_wp2_with(first
   |(go_at_call 191;apply ck (cG _) P.next;intro v A)
   |((with_reducible refine zF 10 22 rfl rfl (O<|U v) (0,0) ?_ ?_);exact⟨Z,Z,Cj v⟩;apply FA;intro s w;have q:=T<|w▸A.next (KO);have x:=T<|w▸CR _ _ _ _ _ _ (Cj _);have af:=T A.size;generalize O (U v)=M at *;have u0:AC s _=H (.int _<|0):=Cc x 0;have u1:AC s _=H (.int _<|0):=Cc x 1;obtain⟨c0,c1,c2,c3⟩:=Eb q.h))
  go_loopg[11,12] (k-1) (λg zt zj wr=>wr=s/\∃(j:I) (a:J),zt=C Y a/\zj=C Y ((j:J)+1)/\D (j+g=k-1)/\D (a=Ki c*256^j))
  exact⟨Z,0,_,Z,Z,Bg,by show _=_;rw[AE o];simp⟩;clear c0 c1 c2 c3 u0 u1;obtain⟨rfl,j,a,rfl,rfl,b,m⟩:=hrel;obtain _|g:=gk
  .have t:j=k-1:=AY<|AE b;have aa:¬j+1<(k:J):=E;have f:=fA c (k-1) E;have u : -9223372036854775808<=a+y/\a+y<=9223372036854775807:=by have B:=AE m;have h2:=AE Q;rw[t]at B;rw[B];omega
   have ac:=u.1;have ad:=u.2;have R:D<|a=Ki c*256^(k-1):=by show _=_;rw[AE m,t]
   clear m f b t u o
   go_wp2_with(first
    |((with_reducible refine zH 6 (y:=57) rfl rfl (O (U W)+1) 3 (a+y) ((i:J)+1+k) AQ ?_ ?_);exact⟨Z,Z,q.c⟩)
    |((with_reducible refine zF 7 58 rfl rfl (O (U W)+2) (0,0) ?_ ?_);exact⟨Z,Z,sx E q.a⟩))
   have L:=q.ai (Da 3 (a+y) (i+1+k) AQ) (0,0);refine JQ results193 L Z Z Z ⟨?_,L.2.2⟩;exact⟨_,_,_,_,_,Z,(λy' p' e=>by rw[AE z]at e;injection e with e;injection e with e1 e2;subst e1;exact⟨Z,by rw[AE R],Z,Z,Z⟩),(λf' e=>by rw[AE z]at e;cases e)⟩
  have aa:j+1<(k:J):=AY<|AE b;have f:=fA c (j+1)<|AY<|AE b;have ab:(0:J)<=256^(j+1):=Int.pow_nonneg B8;have r:a*256=Ki c*256^(j+1):=by rw[AE m,Int.pow_succ,Int.mul_assoc]
  have ac : -9223372036854775808<=a*256:=by rw[r];exact f.1
  have ad:a*256<=9223372036854775807:=by have al:(1:J)<=256^(j+1):=Int.pow_pos B8;rw[r];have:=f.2;omega
  have N:=T r;have aj:(j:J)<=7:=AY<|AE b;clear r f ab m o;go_wp2;go_roundg g;exact⟨Z,_,_,Z,Bb,AZ<|AE b,N⟩;omega
def ub(j:1<=k)(g:k<=8)(hl:Lm bs l lim)(hb:K bs<=200000000)(hi:Cx bs lim<|i+2)(b:bs[i+1]?=H c):Ar As 193 #[.agg<|Ct bs fm d l,C Y i,C Y k] W λe m=>TW (CZ bs lim (k-1) (i+2) 0) c i k e/\A0 W m:=by
 have a:=Dk b;rcases hR:CZ bs lim (k-1) (i+2) 0 with f|x
 .have h:=u7 W fm d j g c hl hb a hi hR;rw[hR]at h;exact h
 obtain⟨y,p⟩:=x;have h:=u9 W fm d j g hl hb a hi b hR;rw[hR]at h;exact h
def fC{R:AS (J×J)<|I×I×I×I}{x:J×J}(k:D5 bs l i 9=x)(m:Ew R<|Ak<|Af #[.agg<|Da 0 0 0 AQ,.agg<|Cf x])(b:CN bs l i=AQ\/(CN bs l i=AP/\∃c,bs[i]?=H c/\(c.toNat=193\/(199<=(c.toNat:J)/\(c.toNat:J)<=203)\/(212<=(c.toNat:J)/\(c.toNat:J)<=216)))):Ar As 167 #[.agg<|Ct bs fm d l,C Y i] W λe q=>Ew R e/\A0 W q:=by
 have h:=NJ fm d k;have o:=KP W bs fm d l;have n:=T m;clear k m;unfold Ct;rcases b with f|⟨f,c,g,b|⟨y,v⟩|⟨y,v⟩⟩
 all_goals
  have j:=GI fm d f;clear f
  try
   first
    |(have w:=M4 g b;clear b)
    |(have w:=Et g;have z:=Df (c:=c) 192 E;have A:=Df (c:=c) 194 E;have B:=Df (c:=c) 195 E;have F:=Df (c:=c) 220 E;have L:=Df (c:=c) 221 E;have N:=Df (c:=c) 222 E;have P:=Df (c:=c) 223 E)
   clear g
  go_enter func167,ntmps167
  go_wp2_with(first
   |(go_at_call 116;refine o.ck (j _) ?_;clear j;intro Q p r s c2 t)
   |(go_at_call 84;refine(h _).mono ?_;clear h r s c2 t;rintro e S ⟨rfl,u⟩;have a:=T<|p.next u)
   |((with_reducible refine zH 4 rfl rfl (O (U W)+1) 0 0 0 AQ ?_ ?_);exact⟨Z,Z,a.c⟩)
   |((with_reducible refine zF 5 _ rfl rfl (O (U W)+2) x ?_ ?_);exact⟨Z,Z,sx E a.a⟩))
  refine JQ results167 (a.ai _ _) Z Z Z ⟨n,(a.ai _ _).2.2⟩
def Qp{R:AS (J×J)<|I×I×I×I}(f:bs[i]?=H c)(h:CN bs l i=AP)(hb:At bs<=200000000){K N:J}(j:Ew R<|Ak<|Af #[.agg<|Da K N ((i:J)+1) AQ,.agg<|Cf (0,0)])(a:(((c.toNat:J)<128)/\K=3/\N=(c.toNat:J))\/((128<=(c.toNat:J)/\(c.toNat:J)<144)/\K=7/\N=(c.toNat:J)-128)\/((144<=(c.toNat:J)/\(c.toNat:J)<160)/\K=6/\N=(c.toNat:J)-144)\/((160<=(c.toNat:J)/\(c.toNat:J)<192)/\K=4/\N=(c.toNat:J)-160)\/((224<=(c.toNat:J))/\K=3/\N=(c.toNat:J)-256)\/(c.toNat=192/\K=0/\N=0)\/(c.toNat=194/\K=1/\N=0)\/(c.toNat=195/\K=2/\N=0)):Ar As 167 #[.agg<|Ct bs fm d l,C Y i] W λe o=>Ew R e/\A0 W o:=by
 have B:=Dk f;have z:=c.toNat_lt;have g:=GI fm d h;have n:=KP W bs fm d l;have m:=T j;clear h j;unfold Ct;rcases a with⟨a,rfl,rfl⟩|⟨a,rfl,rfl⟩|⟨a,rfl,rfl⟩|⟨a,rfl,rfl⟩|⟨a,rfl,rfl⟩|⟨a,rfl,rfl⟩|⟨a,rfl,rfl⟩|⟨a,rfl,rfl⟩
 all_goals
  first
   |(have k:=M4 f a;clear a)
   |(have k:=Et f;obtain⟨F,A⟩:=a)
   |(have k:=Et f;try(have s:=Df (c:=c) 192 E;have t:=Df (c:=c) 194 E;have u:=Df (c:=c) 195 E;have v:=Df (c:=c) 220 E;have w:=Df (c:=c) 221 E;have x:=Df (c:=c) 222 E;have y:=Df (c:=c) 223 E))
  clear f;go_enter func167,ntmps167
  go_wp2_with(first
   |(go_at_call 116;refine n.ck (g _) ?_;clear g;intro L b p q c2 r)
   |((with_reducible refine zH 4 rfl rfl (O (U W)+1) 3 ((c.toNat:J)) ((i:J)+1) AQ ?_ ?_);exact⟨Z,Z,b.c⟩)
   |((with_reducible refine zH 4 rfl rfl (O (U W)+1) 7 ((c.toNat:J)-128) ((i:J)+1) AQ ?_ ?_);exact⟨Z,Z,b.c⟩)
   |((with_reducible refine zH 4 rfl rfl (O (U W)+1) 6 ((c.toNat:J)-144) ((i:J)+1) AQ ?_ ?_);exact⟨Z,Z,b.c⟩)
   |((with_reducible refine zH 4 rfl rfl (O (U W)+1) 4 ((c.toNat:J)-160) ((i:J)+1) AQ ?_ ?_);exact⟨Z,Z,b.c⟩)
   |((with_reducible refine zH 4 rfl rfl (O (U W)+1) 3 ((c.toNat:J)-256) ((i:J)+1) AQ ?_ ?_);exact⟨Z,Z,b.c⟩)
   |((with_reducible refine zH 4 rfl rfl (O (U W)+1) 0 (0) ((i:J)+1) AQ ?_ ?_);exact⟨Z,Z,b.c⟩)
   |((with_reducible refine zH 4 rfl rfl (O (U W)+1) 1 (0) ((i:J)+1) AQ ?_ ?_);exact⟨Z,Z,b.c⟩)
   |((with_reducible refine zH 4 rfl rfl (O (U W)+1) 2 (0) ((i:J)+1) AQ ?_ ?_);exact⟨Z,Z,b.c⟩)
   |((with_reducible refine zF 5 _ rfl rfl (O (U W)+2) (0,0) ?_ ?_);exact⟨Z,Z,sx E b.a⟩))
  refine JQ results167 (b.ai _ _) Z Z Z ⟨m,(b.ai _ _).2.2⟩
def ud{R:AS (J×J)<|I×I×I×I}(z:bs[i]?=H c)(w:CN bs l i=AP)(_hb:K bs<=200000000){v:I}{k:J}(A:c.toNat=v)(B:(v,kd,k)∈([(196,5,1),(197,5,2),(198,5,4),(204,3,1),(205,3,2),(206,3,4),(207,3,8),(217,4,1),(218,4,2),(219,4,4)]:AJ<|I×J×J))(P:∀V,Ar As 192 #[.agg<|Ct bs fm d l,C Y i,C Y kd,C Y k] V λe p=>Ew R e/\A0 V p):Ar As 167 #[.agg<|Ct bs fm d l,C Y i] W λe p=>Ew R e/\A0 W p:=by
 have ac:=M4 z A;have u:=GI fm d w;have N:=KP W bs fm d l;clear w z A;unfold Ct at *;simp only[Iz,LO,Ms,Mx]at B;rcases B with h|h|h|h|h|h|h|h|h|h
 all_goals
  obtain⟨rfl,rfl,rfl⟩:=h
 let vi:J:=196;let s:J:=0;let k:J:=1;let b:I:=83;rotate_left
 let vi:J:=197;let s:J:=1;let k:J:=2;let b:I:=83;rotate_left
 let vi:J:=198;let s:J:=2;let k:J:=4;let b:I:=83;rotate_left
 let vi:J:=204;let s:J:=0;let k:J:=1;let b:I:=98;rotate_left
 let vi:J:=205;let s:J:=1;let k:J:=2;let b:I:=98;rotate_left
 let vi:J:=206;let s:J:=2;let k:J:=4;let b:I:=98;rotate_left
 let vi:J:=207;let s:J:=3;let k:J:=8;let b:I:=98;rotate_left
 let vi:J:=217;let s:J:=0;let k:J:=1;let b:I:=138;rotate_left
 let vi:J:=218;let s:J:=1;let k:J:=2;let b:I:=138;rotate_left
 let vi:J:=219;let s:J:=2;let k:J:=4;let b:I:=138;rotate_left
 all_goals
  go_enter func167,ntmps167
  go_wp2_with(first
   |(go_at_call 116;refine N.ck (u _) ?_;clear u;intro w2 r c0 c1 c2 c3))
  refine Dl (S:=λt=>A7 t (O<|U W) (Ct bs fm d l) 115) (r.drew.h) B6 λj=>tk 0 b (Ag #[Ae ⟨Aw bs⟩,C Y fm,C Y d,C Y l]) Z B6 GB (λt hZ=>yI 2 hZ Z Z) j <| OX 1 (dst:=(b+1)) (v:=(C Y i)) B6 GB j <| OX 2 (dst:=(b+2)) (v:=(C Y vi)) B6 GB j <| OX 3 (dst:=(b+3)) (v:=(C Y s)) B6 GB j <| OX 4 (dst:=(b+4)) (v:=(C Y k)) B6 GB j <| CH 5 λab x=>?_;go_simp;refine(P _).mono ?_;rintro e w9 ⟨⟨a,n,q,o,F,rfl,aa⟩,Q⟩;simp only[];have f:=T<|r.drew.next Q;have L:=T<|show Ew R (Ak<|Af #[.agg<|Da a n q o,.agg<|Cf F])from⟨a,n,q,o,F,Z,aa⟩;have m:=f.h;refine x.out _ _ m λ_=>?_;clear x;refine OX 6 (dst:=(b+6)) (v:=(.agg<|Da a n q o)) B6 GB m <| OX 7 (dst:=(b+7)) (v:=(.agg<|Cf F)) B6 GB m ?_;have y:=(Do _ (O (U W)+1) (O<|U W) (Da a n q o) E).trans m;refine sH 8 4 (b+6) (g:=(O (U W)+1)) (k:=a) (n:=n) (q:=q) (b:=o) B6 (f.c) (y) ?_;refine sF 9 5 (b+7) (g:=(O (U W)+2)) (F:=F) B6 (sx E f.a) (sx E y) <| CK ?_;dsimp only[b];go_simp;go_wp2;refine JQ results167 (f.ai _ _) Z Z Z ⟨L,(f.ai _ _).2.2⟩
def ue{R:AS (J×J)<|I×I×I×I}(r:bs[i]?=H c)(m:CN bs l i=AP)(_hb:K bs<=200000000){v:I}{k:J}(s:c.toNat=v)(t:(v,kd,k)∈([(220,6,2),(221,6,4),(222,7,2),(223,7,4)]:AJ<|I×J×J))(j:∀V,Ar As 192 #[.agg<|Ct bs fm d l,C Y i,C Y kd,C Y k] V λe f=>Ew R e/\A0 V f):Ar As 167 #[.agg<|Ct bs fm d l,C Y i] W λe f=>Ew R e/\A0 W f:=by
 have L:=M4 r s;have g:=GI fm d m;have w:=KP W bs fm d l;clear m r s;unfold Ct at *;simp only[Iz,LO,Ms,Mx]at t;rcases t with h|h|h|h
 all_goals
  obtain⟨rfl,rfl,rfl⟩:=h;go_enter func167,ntmps167
  go_wp2_with(first
   |(go_at_call 116;refine w.ck (g _) ?_;clear g;intro N x y z c2 A)
   |(go_at_call 192;refine(j _).mono ?_;clear j y z c2 A;rintro e P ⟨⟨a,n,q,o,F,rfl,p⟩,B⟩;have b:=T<|x.next B;have u:=T<|show Ew R (Ak<|Af #[.agg<|Da a n q o,.agg<|Cf F])from⟨a,n,q,o,F,Z,p⟩;clear p)
   |((with_reducible refine zH 4 rfl rfl (O (U W)+1) a n q o ?_ ?_);exact⟨Z,Z,b.c⟩)
   |((with_reducible refine zF 5 _ rfl rfl (O (U W)+2) F ?_ ?_);exact⟨Z,Z,sx E b.a⟩))
  refine JQ results167 (b.ai _ _) Z Z Z ⟨u,(b.ai _ _).2.2⟩
def uf{R:AS (J×J)<|I×I×I×I}(A:bs[i]?=H c)(P:CN bs l i=AP)(_hb:K bs<=200000000){v:I}{k:J}(hv:c.toNat=v)(hw:(v,k)∈([(208,1),(209,2),(210,4),(211,8)]:AJ<|I×J))(hx:(CN bs l (i+1)=AQ/\Ew R (Ak<|Af #[.agg<|Da 0 0 0 AQ,.agg<|Cf<|D5 bs l (i+1) 9]))\/(CN bs l (i+1)=AP/\∀V,Ar As 193 #[.agg<|Ct bs fm d l,C Y i,C Y k] V λe b=>Ew R e/\A0 V b)):Ar As 167 #[.agg<|Ct bs fm d l,C Y i] W λe b=>Ew R e/\A0 W b:=by
 have ag:=M4 A hv;have af:=Dk A;have N:=GI fm d P;have HX:=KP W bs fm d l;have hh:(∀V,Ar As 116 #[Ag #[Ae ⟨Aw bs⟩,C Y fm,C Y d,C Y l],C Y<|(i:J)+1] V λe b=>e=Ak (Ah AQ)/\A0 V b)/\(∀V,Ar As 84 #[Ag #[Ae ⟨Aw bs⟩,C Y fm,C Y d,C Y l],C Y<|(i:J)+1,C Y 9] V λe b=>e=Ak (.agg<|Cf<|D5 bs l (i+1) 9)/\A0 V b)/\D (Ew R<|Ak<|Af #[.agg<|Da 0 0 0 AQ,.agg<|Cf<|D5 bs l (i+1) 9])\/(∀V,Ar As 116 #[Ag #[Ae ⟨Aw bs⟩,C Y fm,C Y d,C Y l],C Y<|(i:J)+1] V λe b=>e=Ak (Ah AP)/\A0 V b)/\(∀V,Ar As 193 #[.agg<|Ct bs fm d l,C Y i,C Y k] V λe b=>Ew R e/\A0 V b) :=
  hx.imp (λh=>⟨λV=>GI fm d h.1 V,λV=>M1 V bs fm d l (i+1) 9,h.2⟩) λh=>⟨λV=>GI fm d h.1 V,h.2⟩
 generalize D5 bs l (i+1) 9=x at hh;clear P A hv hx;unfold Ct at *;simp only[Iz,LO,Ms,Mx]at hw;rcases hw with h|h|h|h
 all_goals
  obtain⟨rfl,rfl⟩:=h
 let vi:J:=208;let s:J:=0;let k:J:=1;rotate_left
 let vi:J:=209;let s:J:=1;let k:J:=2;rotate_left
 let vi:J:=210;let s:J:=2;let k:J:=4;rotate_left
 let vi:J:=211;let s:J:=3;let k:J:=8;rotate_left
 all_goals
  rcases hh with⟨z,L,w⟩|⟨z,cP⟩
 all_goals
  go_enter func167,ntmps167
  go_wp2_with(first
   |(go_at_call 116;refine HX.ck (N _) ?_;clear N;intro w2 ab p r c2 t)
   |(go_at_call 116;refine ab.ck (z _) ?_;clear z p r c2 t;intro w4 y p r c2 t)
   |(go_at_call 84;refine y.ck (L _) ?_;clear L p r c2 t;intro w3 m p r c2 t)
   |((with_reducible refine zH 4 rfl rfl (O (U W)+1) 0 0 0 AQ ?_ ?_);exact⟨Z,Z,m.c⟩)
   |((with_reducible refine zF 5 _ rfl rfl (O (U W)+2) x ?_ ?_);exact⟨Z,Z,sx E m.a⟩))
  try refine JQ results167 (m.ai _ _) rfl rfl rfl ⟨w,(m.ai _ _).2.2⟩
 all_goals
  refine Dl (S:=λB=>A7 B (O<|U W) (Ct bs fm d l) 115) (y.drew.h) B6 λj=>Ch 0 123 (Ag #[Ae ⟨Aw bs⟩,C Y fm,C Y d,C Y l]) Z (λB hZ=>yI 2 hZ Z Z) j <| Cb 1 124 (C Y i) j <| Cb 2 125 (C Y vi) j <| Cb 3 126 (C Y s) j <| Cb 4 127 (C Y k) j <| CH 5 λae Q=>?_;go_simp;refine(cP _).mono ?_;rintro e w9 ⟨⟨a,n,q,o,F,rfl,ad⟩,ac⟩;simp only[];have f:=T<|y.drew.next ac;have w:=T<|show Ew R (Ak<|Af #[.agg<|Da a n q o,.agg<|Cf F])from⟨a,n,q,o,F,Z,ad⟩;have u:=f.h;refine Q.out _ _ u λ_=>?_;clear Q;refine Cb 6 129 (.agg<|Da a n q o) u <| Cb 7 130 (.agg<|Cf F) u ?_;have aa:=(Do _ (O (U W)+1) (O<|U W) (Da a n q o) E).trans u;refine sH 8 4 129 B6 (f.c) (aa) ?_;refine sF 9 5 130 (g:=(O (U W)+2)) (F:=F) B6 (sx E f.a) (sx E aa) <| CK ?_;go_simp;go_wp2;refine JQ results167 (f.ai _ _) Z Z Z ⟨w,(f.ai _ _).2.2⟩
def ug:(List.range 256).all (λc=>AR<|(c/32=7->(c%32<20\/22<c%32)->(E7 c).1=0)/\(c/32=6->(E7 c).1=0)/\(c/32<6->27<c%32->(E7 c).1=0)/\(c/32<6->c%32<24->E7 c=(G5<|c/32,0,c%32))/\(c/32<6->24<=c%32->c%32<=27->E7 c=(G5<|c/32,2^(c%32-24),0)))=AP:=B6
def uh:(c.toNat/32=7->(c.toNat%32<20\/22<c.toNat%32)->(E7 c.toNat).1=0)/\(c.toNat/32=6->(E7 c.toNat).1=0)/\(c.toNat/32<6->27<c.toNat%32->(E7 c.toNat).1=0)/\(c.toNat/32<6->c.toNat%32<24->E7 c.toNat=(G5<|c.toNat/32,0,c.toNat%32))/\(c.toNat/32<6->24<=c.toNat%32->c.toNat%32<=27->E7 c.toNat=(G5<|c.toNat/32,2^(c.toNat%32-24),0)):=Dr<|Hh.1 ug c.toNat<|Hi.2 c.toNat_lt
def ui:(List.range 6).all (λu=>AR<|¬G5 u=0/\Lu u=J6 (G5 u)/\¬G5 u=5/\(G5 u=6↔u=1))=AP:=B6
theorem TX{u:I}(h:u<6):¬G5 u=0/\Lu u=J6 (G5 u)/\¬G5 u=5/\(G5 u=6↔u=1):=Dr<|Hh.1 ui u<|Hi.2 h
theorem fD{u w:I}(h:u<6)(a:u=1):nR (G5 u) w x = -1-min (x:J) 9223372036854775807:=by grind [nR,TX]
theorem fE{u w:I}(h:u<6)(a:¬u=1):nR (G5 u) w x=min (x:J) 9223372036854775807:=by grind [nR,TX]
theorem XF{u:I}(h:u<6):Im (G5 u) x=AR (9223372036854775807<x):=by grind [Im,TX]
theorem TY(c:I):DS 3 c=DD c:=rfl
theorem fF(fm:J)(hl:Lm bs l lim)(hi:Cx bs lim i):(CN bs l i=AQ/\Eo fm bs lim i=.error (D5 bs l i 9))\/(CN bs l i=AP/\∃c,bs[i]?=H c/\¬(i:J)=lim/\Cx bs lim (i+1)/\D5 bs l i 9=(9,(i:J))):=by
 rcases hc:bs[i]? with _|c
 .exact AF ⟨Ic hc,by unfold Eo;rw[hc,IM hi.1 hc 9]⟩
 grind [Hr,Eo,Gk,J4,Eu,Id]
theorem uj(W:X)(fm d:J)(hl:Lm bs l lim)(hi:Cx bs lim i)(hb:At bs<=200000000):Ar As 166 #[.agg<|Ct bs fm d l,C Y i] W λe s=>Ew (Eo 2 bs lim i) e/\A0 W s:=by
 rcases fF 2 hl hi with⟨b,u⟩|⟨b,c,a,j,p,v⟩
 .exact fy Z (NX u)<|AF b
 have P:=c.toNat_lt;obtain⟨y,z,A,B,L⟩:=uh;by_cases m:(E7 c.toNat).1=0/\((c.toNat/32=7/\(c.toNat%32<20\/22<c.toNat%32))\/c.toNat/32=6\/(c.toNat/32<6/\27<c.toNat%32))
 .exact fy v (NX<|XE (fm:=2) a j m.1)<|AG ⟨b,c,a,m.2⟩
 have m:=λh=>m ⟨h.elim (λh=>y h.1 h.2) λh=>h.elim z λh=>A h.1 h.2,h⟩;by_cases Q:c.toNat/32=7
 .have f:c.toNat=244\/c.toNat=245\/c.toNat=246:=E;rcases f with f|f|f
  .exact RT (c:=c) a b hb (K:=1) (N:=0) (MP (Qo a j kf9 B8) Z Z E Z) ⟨_,_,Z,Z,E⟩
  .exact RT a b hb (K:=2) (N:=0) (MP (Qo a j kf9 B8) Z Z E Z) ⟨_,_,Z,Z,E⟩
  exact RT a b hb (K:=0) (N:=0) (MP (Qo a j kf9 B8) Z Z E Z) ⟨_,_,Z,Z,E⟩
 have g:c.toNat/32<6:=E;have k:=TX g;by_cases n:c.toNat%32<24
 .have q:=Qo (fm:=2) a j (B g n) k.1;by_cases o:c.toNat/32=1
  .exact RT a b hb (MP q k.2.1 (by grind [fD]) E<|by grind [XF]) ⟨_,_,Z,Z,AG<|AG<|AG<|AF ⟨g,n,o,Z,Z⟩⟩
  exact RT a b hb (MP q k.2.1 (by grind [fE]) E<|by grind [XF]) ⟨_,_,Z,Z,AG<|AG<|AG<|AG ⟨g,n,o,Z,Z⟩⟩
 have f:c.toNat%32=24\/c.toNat%32=25\/c.toNat%32=26\/c.toNat%32=27:=E;have w:=L g E E;refine tZ W a b _ (λx=>if c.toNat/32=1 then -1-x else x) Z g Z hl p hb ?_ ?_ λR S F t=>ft (fm:=2) a j p w k.1 t k.2.1 Z (λx r=>?_) (λx r=>by rw[XF g,r])<;>grind [fD,fE]
theorem XG:∀(k p a:I),CZ bs lim k p a=match CZ bs lim k p 0 with
  |.error f=>.error f
  |.ok (y,q)=>.ok (a*256^k+y,q)
 |0,p,a=>kfu
 |k+1,p,a=>by
  rw[CZ,CZ];rcases hc:bs[p]? with _|c
  .rfl
  simp only[];by_cases b:(p:J)=lim
  .rw[Cp b,Cp b]
  rw[Cl b,Cl b,XG k _ _,XG k _<|0*256+c.toNat];obtain f|y:=CZ bs lim k (p+1) 0
  .rfl
  obtain⟨y,q⟩:=y;simp only[];congr 2;rw[Re,Gf,Wf,Nat.add_mul,Nat.mul_assoc,Wg _<|256^k];omega
theorem ul(x:I):GF x (1:I)=((x:J)+128)%256-128:=by unfold GF;rw[Cp B8];have e:IntKind.i8.wrap x=(x+128)%256-128:=Bj;grind [wrap64]
theorem uo(x:I):GF x (2:I)=((x:J)+32768)%65536-32768:=by unfold GF;rw[Cl B8,Cp B8];have e:IntKind.i16.wrap x=(x+32768)%65536-32768:=Bj;grind [wrap64]
theorem ur(x:I):GF x (4:I)=((x:J)+2147483648)%4294967296-2147483648:=by grind [GF,wrap64,wrap32]
theorem us(x:I):GF x (8:I)=wrap64 x:=by grind [GF]
theorem ut(x:I):GF x (0:I)=wrap64 x:=by grind [GF]
theorem uu(c:AU)(k y:I)(b:k=1\/k=2\/k=4\/k=8)(hy:y<256^(k-1)):GF (c.toNat*256^(k-1)+y) k=Ki c*256^(k-1)+y:=by have a:=c.toNat_lt;grind [ul,Ki,uo,ur,us,wrap64]
theorem uv{c1:AU}(m:bs[i]?=H c)(u:¬(i:J)=lim)(r:bs[i+1]?=H c1)(v:¬((i+1:I):J)=lim)(s:DD c.toNat=(5,k,0))(t:k=1\/k=2\/k=4\/k=8)(hi:Cx bs lim<|i+2)(g:TW (CZ bs lim (k-1) (i+2) 0) c1 i k e):Ew (Eo 3 bs lim i) e:=by
 obtain⟨a,n,q,o,F,rfl,d,l⟩:=g;have j:k=(k-1)+1:=E;have b:CZ bs lim k (i+1) 0=match CZ bs lim (k-1) (i+2) 0 with
  |.error f=>.error f
  |.ok (y,q)=>.ok (c1.toNat*256^(k-1)+y,q):=by
  grind [CZ,XG]
 have e:Eo 3 bs lim i=match CZ bs lim k (i+1) 0 with
  |.error f=>.error f
  |.ok (x,q)=>.ok (5,k,x,q):=by
  grind [Eo,TY]
 rw[b]at e;rcases hr:CZ bs lim (k-1) (i+2) 0 with f|z
 .grind [NX]
 obtain⟨y,p⟩:=z;rw[hr]at e;obtain⟨rfl,rfl,rfl,rfl,rfl⟩:=d y p hr;have w:=(Qn _ _ 0 y p hi hr).1;have h:=RD _ _ _ _ _ hr;rw[Gf,Nat.one_mul]at h;refine MP e Z ?_ E Z;grind [nR,uu]
theorem uw(W:X)(fm d:J)(hl:Lm bs l lim)(hi:Cx bs lim i)(hb:K bs<=200000000):Ar As 167 #[.agg<|Ct bs fm d l,C Y i] W λe q=>Ew (Eo 3 bs lim i) e/\A0 W q:=by
 rcases fF 3 hl hi with⟨n,hR⟩|⟨n,c,j,z,L,aa⟩
 .exact fC Z (NX hR)<|AF n
 have ae:=c.toNat_lt;have s:∀b x:I,DD _=(b,0,x)->x<9223372036854775808->¬b=0/\¬b=5/\¬b=6->Ew (Eo 3 bs lim i) (Ak<|Af #[.agg<|Da _ x (i+1) AQ,.agg _]):=λb x g o ⟨u,h5,h6⟩=>MP (Qo j z g u) Z (by grind [nR]) E (by grind [Im]);by_cases t:c.toNat<128
 .have h:=s 4 _ (by unfold DD;rw[Cp t]) E B8;exact Qp j n hb h<|AF ⟨E,Z,Z⟩
 by_cases A:c.toNat<144
 .have h:=s 10 _ (by unfold DD;rw[Cl t,Cp A]) E B8;rw[show(c.toNat-128:I)=(c.toNat:J)-128 by omega]at h;exact Qp j n hb h<|AG<|AF ⟨⟨E,E⟩,Z,Z⟩
 by_cases Q:c.toNat<160
 .have h:=s 9 _ (by unfold DD;rw[Cl t,Cl A,Cp Q]) E B8;rw[show(c.toNat-144:I)=(c.toNat:J)-144 by omega]at h;exact Qp j n hb h<|AG<|AG<|AF ⟨⟨E,E⟩,Z,Z⟩
 by_cases a4:c.toNat<192
 .have h:=s 8 _ (by unfold DD;rw[Cl t,Cl A,Cl Q,Cp a4]) E B8;rw[show(c.toNat-160:I)=(c.toNat:J)-160 by omega]at h;exact Qp j n hb h<|AG<|AG<|AG<|AF ⟨⟨E,E⟩,Z,Z⟩
 by_cases a5:224<=c.toNat
 .have he:DD c.toNat=(5,0,18446744073709551360+c.toNat):=by grind [DD]
  exact Qp j n hb (MP (Qo j z he B8) Z (by grind [nR,ut,wrap64]) E Z)<|AG<|AG<|AG<|AG<|AF ⟨E,Z,Z⟩
 have o:∀v:I,c.toNat=v->(DD v).1=0->(c.toNat=193\/(199<=(c.toNat:J)/\(c.toNat:J)<=203)\/(212<=(c.toNat:J)/\(c.toNat:J)<=216))->Ar _ _ #[.agg<|Ct bs fm d l,.int _ i] W _:=λv a g F=>fC aa (NX<|XE j z<|by rw[TY,a];exact g)<|AG ⟨n,c,j,F⟩;have R:∀(v b k:I) (m:J),c.toNat=v->DD v=(b,k,0)/\k<=8/\m=J6 b/\¬b=0/\¬b=5/\¬b=6->∀V,Ar _ _ #[.agg<|Ct bs fm d l,.int _ i,.int _ m,.int _ k] V λe q=>Ew (Eo 3 bs lim i) e/\A0 V q:=λv b k m a ⟨g,h8,af,u,h5,h6⟩ V=>Ce (tY h8 hl L hb) λe q h=>by obtain⟨⟨nv,ov,ad,rfl,hB⟩,h2⟩:=h;grind [ft,TY,nR,Im]
 have ac:∀(v k:I),c.toNat=v->DD v=(5,k,0)->(k=1\/k=2\/k=4\/k=8)->(CN bs l (i+1)=AQ/\Ew (Eo 3 bs lim i) (Ak<|Af #[.agg<|Da 0 0 0 AQ,.agg<|Cf<|D5 bs l (i+1) 9]))\/(CN bs l (i+1)=AP/\∀V,Ar As 193 #[.agg<|Ct bs fm d l,C Y i,C Y k] V λe q=>Ew (Eo 3 bs lim i) e/\A0 V q):=λv k a g B=>by
  have ab:DD c.toNat=(5,k,0):=by rw[a];exact g
  have e:∀f,CZ bs lim k (i+1) 0=.error f->Eo 3 bs lim i=.error f:=λf hf=>by grind [Eo,TY]
  have ek:k=(k-1)+1:=E;rcases hc1:bs[i+1]? with _|c1
  .grind [Ic,NX,CZ,IM]
  by_cases P:((i+1:I):J)=lim
  .grind [Hr,NX,CZ,Gk]
  have S:=Eu L hc1 P;exact AG ⟨J4 hl L hc1 P,λV=>Ce (ub E E hl hb S hc1) λe' q h=>⟨uv j z hc1 P ab B S h.1,h.2⟩⟩
 have p:∀(v b k:I) (m:J),c.toNat=v->(v,m,(k:J))∈([(196,5,1),(197,5,2),(198,5,4),(204,3,1),(205,3,2),(206,3,4),(207,3,8),(217,4,1),(218,4,2),(219,4,4)])/\DD v=(b,k,0)/\k<=8/\m=J6 b/\¬b=0/\¬b=5/\¬b=6->Ar _ _ _ W _:=λv b k m a ⟨r,g⟩=>ud j n hb a r<|R v b k m a g;have y:∀(v b k:I) (m:J),c.toNat=v->(v,m,(k:J))∈([(220,6,2),(221,6,4),(222,7,2),(223,7,4)])/\DD v=(b,k,0)/\k<=8/\m=J6 b/\¬b=0/\¬b=5/\¬b=6->Ar _ _ _ W _:=λv b k m a ⟨r,g⟩=>ue j n hb a r<|R v b k m a g;have w:∀v (k:I),c.toNat=v->(v,(k:J))∈([(208,1),(209,2),(210,4),(211,8)])/\DD v=(5,k,0)/\(k=1\/k=2\/k=4\/k=8)->Ar _ _ _ W _:=λv k a ⟨r,g,B⟩=>uf j n hb a r<|ac v k a g B;have N:∀v b:I,c.toNat=v->DD v=(b,0,0)/\(¬b=0/\¬b=5/\¬b=6)/\((v=192/\J6 b=0)\/(v=194/\J6 b=1)\/(v=195/\J6 b=2))->Ar _ _ #[.agg<|Ct bs fm d l,.int _ i] W _:=λv b a ⟨g,u,F⟩=>Qp j n hb (s b 0 (by rw[a];exact g) B8 u)<|AG<|AG<|AG<|AG<|AG E;have a:c.toNat=192\/c.toNat=193\/c.toNat=194\/c.toNat=195\/c.toNat=196\/c.toNat=197\/c.toNat=198\/c.toNat=199\/c.toNat=200\/c.toNat=201\/c.toNat=202\/c.toNat=203\/c.toNat=204\/c.toNat=205\/c.toNat=206\/c.toNat=207\/c.toNat=208\/c.toNat=209\/c.toNat=210\/c.toNat=211\/c.toNat=212\/c.toNat=213\/c.toNat=214\/c.toNat=215\/c.toNat=216\/c.toNat=217\/c.toNat=218\/c.toNat=219\/c.toNat=220\/c.toNat=221\/c.toNat=222\/c.toNat=223:=E;rcases a with a|a|a|a|a|a|a|a|a|a|a|a|a|a|a|a|a|a|a|a|a|a|a|a|a|a|a|a|a|a|a|a
 .exact N _ 1 a B8
 .exact o _ a Z E
 .exact N _ 2 a B8
 .exact N _ 3 a B8
 .exact p _ 7 1 5 a B8
 .exact p _ 7 2 5 a B8
 .exact p _ 7 4 5 a B8
 .exact o _ a Z E
 .exact o _ a Z E
 .exact o _ a Z E
 .exact o _ a Z E
 .exact o _ a Z E
 .exact p _ 4 1 3 a B8
 .exact p _ 4 2 3 a B8
 .exact p _ 4 4 3 a B8
 .exact p _ 4 8 3 a B8
 .exact w _ 1 a B8
 .exact w _ 2 a B8
 .exact w _ 4 a B8
 .exact w _ 8 a B8
 .exact o _ a Z E
 .exact o _ a Z E
 .exact o _ a Z E
 .exact o _ a Z E
 .exact o _ a Z E
 .exact p _ 8 1 4 a B8
 .exact p _ 8 2 4 a B8
 .exact p _ 8 4 4 a B8
 .exact y _ 9 2 6 a B8
 .exact y _ 9 4 6 a B8
 .exact y _ 10 2 7 a B8
 exact y _ 10 4 7 a B8
def fG(d:J)(hl:Lm bs l lim)(hi:Cx bs lim i)(hb:K bs<=200000000)(p:fm=2\/fm=3):Ar As 132 #[.agg<|Ct bs fm d l,C Y i] W λe k=>Ew (Eo fm bs lim i) e/\A0 W k:=by
 have j:=KP W bs fm d l;rcases p with rfl|rfl;have c:=λV=>uj V 2 d hl hi hb;rotate_left
 have c:=λV=>uw V 3 d hl hi hb;rotate_left
 all_goals
  clear hl hi hb;unfold Ct at *;go_enter func132,ntmps132
  go_wp2_with fail
  apply (c _).mono;rintro e r ⟨⟨a,n,q,o,F,rfl,f,g⟩,m⟩;have b:=T<|j.next m;have h:=T (⟨a,n,q,o,F,Z,f,g⟩:Ew _ _);clear f g c;simp only[]
  go_wp2_with(first
   |((with_reducible refine zH 4 rfl rfl (O (U W)+1) a n q o ?_ ?_);exact⟨Z,Z,b.c⟩)
   |((with_reducible refine zF 5 _ rfl rfl (O (U W)+2) F ?_ ?_);exact⟨Z,Z,sx E b.a⟩))
  refine JQ results132 (b.ai _ _) Z Z Z ⟨h,(b.ai _ _).2.2⟩
def Tryz.infoThR:(prog.info? 101).map (λi=>(i.zero,i.size,i.bytes))=H (H<|.agg Cv,5,80):=B6
structure FU(W:Ap)(A:A3)(y:A3)(V:Ap):Prop where
 h:V.heap[Au (Av W)]?=An (Aj A 115)
 b:V.heap[Au (Av W)+1]?=An (Aj Cv 101)
 a:V.heap[Au (Av W)+2]?=An (Aj (Cf (0,0)) 103)
 d:V.heap[Au (Av W)+3]?=An (Aj y 101)
 ac:A0 W V
def FU.ai(h:FU W A y V):Ji W A V:=⟨h.h,h.b,h.a,h.ac⟩
theorem FU.next(h:FU W A y V)(hb:A0 V V'):FU W A y V' :=
 ⟨Ca (Co hb _<|Cd h.h) h.h,Ca (Co hb _<|Cd h.b) h.b,Ca (Co hb _<|Cd h.a) h.a,Ca (Co hb _<|Cd h.d) h.d,Cs h.ac<|CG hb h.ac.size⟩
def FU.size(h:FU W A y V):O (U W)+4<=O (U V):=Cd h.d
def uE(W:X)(y:A3):FU W A y<|(Az (Az (Az (Az W<|M A 115)<|M Cv 101)<|M (Cf (0,0)) 103)<|M Cv 101).setRow (O (U W)+3) y:=by
 have h:=d9 (W:=W) (A:=A);have c:O (U<|Az (Az (Az W<|M A 115)<|M Cv 101)<|M (Cf (0,0)) 103)=O (U W)+3:=Ba;have b:=Cj (Az (Az (Az W<|M A 115)<|M Cv 101)<|M (Cf (0,0)) 103) (o:=(M Cv 101));rw[c]at b;generalize(Az (Az (Az W<|M A 115)<|M Cv 101)<|M (Cf (0,0)) 103)=V at *;have a:=h.next<|Cm (o:=(M Cv 101))
 exact⟨sx E a.h,sx E a.b,sx E a.a,CR _ _ _ _ _ _ b,Dq a.ac E⟩
theorem uF(W:X):(Az (Az (Az (Az W<|M A 115)<|M Cv 101)<|M (Cf (0,0)) 103)<|M Cv 101).heap[O (U W)+3]?=H (M Cv 101):=by have a:O (U<|Az (Az (Az W<|M A 115)<|M Cv 101)<|M (Cf (0,0)) 103)=O (U W)+3:=Ba;grind [Cj]
def uG(a:A3)(f:A3)(b:Below (O (U wr)+2) (Az (Az wr<|M (Cf (0,0)) 103)<|M Cv 101) w2):A0 wr (AD (AD w2 (O (U wr)+1) a) (O<|U wr) f) :=
 Dq (Dq (Cs ((Cm).alloc Ba _)<|CG b E) E)<|Cr _
def XH(r:AS (AI×AI)<|AJ (AM Unit)×AH):AS (AI×AI)<|AM Unit×AH:=match r with
 |.error e=>.error e
 |.ok (ds,q)=>.ok (.agg ds,q)
theorem fJ{q:I}(h:∀a,DW bs lim a q=.ok ((),q))(b:bs[q]?=H c):¬(q:J)=lim:=λe=>by have:=h 1;grind [DW]
theorem fK{α:Type}(hl:Lm bs l lim){itF:α->I->A5 α}{acc:α}{R:A5 α}(hi:Cx bs lim p)(e:p1=EG bs l (K bs+1-p) p)(a:Gn bs lim itF last p acc=R):Cx bs lim p1/\((∃c,bs[p1]?=H c/\CN bs l p1=AP/\c.toNat=last/\R=.ok (acc,p1+1)/\Cx bs lim (p1+1))\/((CN bs l p1=AQ\/∃c,bs[p1]?=H c/\CN bs l p1=AP/\¬c.toNat=last)/\P9 bs lim itF last (K bs+1-p1) p1 acc R)):=by
 unfold Gn at a;rcases MH hl (K bs+1-p) p hi with⟨q,h,i,b,j,r⟩|⟨q,h,i,b,j⟩
 .rw[i]at e;subst e;rw[h]at a;simp only[]at a;have o:=r<|AY hi.1;refine⟨b,?_⟩;have s:∀f,FT bs lim itF last (K bs+1-p1) p1 acc=f->P9 bs lim itF last (K bs+1-p1) p1 acc f:=λf k=>by
   obtain⟨g,n⟩:∃g,K bs+1-p1=g+1:=⟨K bs-p1,AY b.1⟩
   rw[n]at k ⊢;rw[eV,n,o _]at k;exact⟨b,AF ⟨g,Z,k⟩⟩
  rcases d:bs[p1]? with _|c
  .grind [Ic]
  rw[d]at a;simp only[]at a;have t:=fJ o d;grind [J4,Eu]
 rw[i]at e;subst e;rw[h]at a;simp only[]at a;obtain⟨c,d⟩:∃c,bs[p1]?=H c:=⟨_,D7 j⟩
 have m:Cx bs lim p1:=⟨E,E⟩
 exact⟨m,AG ⟨AF<|Hr hl d b,m,AG ⟨b,j,a.symm⟩⟩⟩
theorem uH{α:Type}(hl:Lm bs l lim){itF:α->I->A5 α}{p2:I}{acc acc':α}{R:A5 α}(hi:Cx bs lim p2)(e:p3=EG bs l (K bs+1-p2) p2)(k:itF acc p=.ok (acc',p2))(a:Qk bs lim itF last g p acc=R):Cx bs lim p3/\p2<=p3/\((CN bs l p3=AQ/\R=.error (D5 bs l p3 9))\/∃c,bs[p3]?=H c/\CN bs l p3=AP/\((c.toNat=last/\R=.ok (acc',p3+1)/\Cx bs lim (p3+1))\/(¬c.toNat=last/\c.toNat=44/\Cx bs lim (p3+1)/\FT bs lim itF last g (p3+1) acc'=R)\/(¬c.toNat=last/\¬c.toNat=44/\R=.error (D5 bs l p3 9)))):=by
 unfold Qk at a;rw[k]at a;simp only[]at a;rcases MH hl (K bs+1-p2) p2 hi with⟨q,f,h,d,i,j⟩|⟨q,f,h,d,i⟩
 .rw[h]at e;subst e;rw[f]at a;simp only[]at a;refine⟨d,i,?_⟩;rcases b:bs[p3]? with _|c
  .rw[b]at a;exact AF ⟨Ic b,by rw[IM d.1 b];exact a.symm⟩
  rw[b]at a;simp only[]at a;have m:=fJ (j<|AY hi.1) b;grind [J4,Eu,Id]
 rw[h]at e;subst e;rw[f]at a;simp only[]at a;obtain⟨c,b⟩:∃c,bs[p3]?=H c:=⟨_,D7 i⟩
 refine⟨⟨E,E⟩,AY hi.2,AF ⟨Hr hl b d,?_⟩⟩;grind [Gk]
def uI(hl:Lm bs l lim){q:I}(b:(q:J)=lim)(g:q<K bs):EG bs l (K bs+1-q) q=q/\CN bs l q=AQ/\D5 bs l q 9=(8,(q:J)):=by
 obtain⟨c,e⟩:∃c,bs[q]?=H c:=⟨_,D7 g⟩
 refine⟨?_,Hr hl e b,Gk hl e b 9⟩;rcases MH hl (K bs+1-q) q ⟨E,E⟩with⟨i,f,a,d,h,_⟩|⟨i,f,a,d,h⟩
 .have:=d.2;rw[a];omega
 rw[a];omega
def FH(kl:AJ A1)(ds:AJ<|AM Unit):AJ<|Lit×AM Unit:=(kl.zip ds).map λx=>(.string x.1,x.2)
theorem XI(h:K kl=K ds)(l:A1)(d:A2):FH (kl++[l]) (ds++[d])=FH kl ds++[(.string l,d)]:=by unfold FH;rw[List.zip_append h,Ka];rfl
theorem TZ(h:K kl=K ds):K (FH kl ds)=K ds:=by grind [FH]
def XJ:∀{kl:AJ A1} {ds:AJ<|AM Unit},K kl=K ds->(FH kl ds).map NP=kl.map CX
 |[],[],_=>rfl
 |[],_::_,h=>BB
 |_::_,[],h=>BB
 |l::kl,d::ds,h=>by have a:=XJ Bu;unfold FH at a ⊢;rw[List.zip_cons_cons,I7,I7,I7,a];rfl
theorem fL{key:Lit}{d:A2}(h:(FH kl ds)[i]?=H (key,d)):ds[i]?=H d/\∃l,key=.string l:=by grind [FH]
structure G7(k:AH)(V:Ap)(b:AH)(kv u:Aq)(ex:AH->Prop)(kl:AJ A1)(ds:AJ (AM Unit)):Prop where
 q:V.ownsRow b 9 1 kv (At kl) (kl.map CX)
 c:IQ k V b u (λj=>An j=Ax kv\/ex j) ds
 len:At kl=At ds
 e:∀g,Ax kv=An g->¬(Ax u)=An g
 a:∀g,Ax kv=An g->¬ex g
 d:∀g,Ax u=An g->¬ex g
def uJ:G7 k V b Cq Cq ex [] []:=⟨Fi _ _ _ _,XA,rfl,(λg h=>Bs),(λg h=>Bs),(λg h=>Bs)⟩
def NZ{size:I}(h:V.ownsRow b t size u n xs)(l:∀j,Ax u=H j->b<=j->j<O (U V)->V'.heap[j]?=V.heap[j]?):V'.ownsRow b t size u n xs:=by
 refine⟨h.1,?_⟩;rcases h.2 with i|⟨g,d,f,e,a,c,k⟩
 .exact AF i
 exact AG ⟨g,d,f,e,a,Ca (l g kfs a<|Cd c) c,k⟩
theorem G7.next(h:G7 k V b kv u ex kl ds)(t:O (U V)<=O (U V'))(l:∀j,b<=j->j<O (U V)->¬ex j->V'.heap[j]?=V.heap[j]?):G7 k V' b kv u ex kl ds:=by refine⟨NZ h.q λj e f g=>l j f g<|h.a j e,?_,h.len,h.e,h.a,h.d⟩;obtain⟨s,f,g⟩:=h.c;refine⟨s,NZ f λj e o p=>l j o p<|h.d j e,λi d q=>?_⟩;obtain⟨a,m,n⟩:=g i d q;exact⟨a,m,n.same (λj c=>⟨c.1,AY c.2.1,c.2.2⟩) λj c=>l j c.1 c.2.1 λr=>c.2.2.2<|AG r⟩
theorem G7.ac{ex':I->Prop}(h:G7 k V b kv u ex kl ds)(hx:∀j,ex' j->ex j\/O (U V)<=j):G7 k V b kv u ex' kl ds:=by
 refine⟨h.q,?_,h.len,h.e,λg e l=>?_,λg e l=>?_⟩
 .obtain⟨n,f,q⟩:=h.c;refine⟨n,f,λi d r=>?_⟩;obtain⟨a,o,p⟩:=q i d r;refine⟨a,o,p.same (λj m=>⟨m.1,m.2.1,m.2.2.1,λs=>?_⟩) λ_ _=>rfl⟩;grind
 .rcases hx g l with c|c
  .exact h.a g e c
  have:=En h.q e;omega
 obtain⟨n,f,_⟩:=h.c;rcases hx g l with c|c
 .exact h.d g e c
 have:=En f e;omega
def G7.map(h:G7 k V b kv u ex kl ds)(t:B<=b):CV (k+1) V (λj=>B<=j/\j<O (U V)) (.agg<|Cg 7 0 ⟨#[]⟩ kv u)<|.map<|FH kl ds:=by
 obtain⟨s,o,p⟩:=h.c;have hF:∀g,b<=g->g<O (U V)->B<=g/\g<O (U V):=λg v r=>⟨E,r⟩
 refine⟨kv,u,s,Z,?_,?_,λi key d q=>?_⟩
 .rw[TZ h.len,XJ h.len,<-h.len];exact P5 h.q hF
 .rw[TZ h.len];exact P5 o hF
 obtain⟨e,l,f⟩:=fL q;obtain⟨a,m,n⟩:=p i d e;exact⟨l,a,f,m,n.same (λj c=>⟨AY c.1,c.2.1⟩) λ_ _=>rfl⟩
def Qq(kl:AJ A1)(ds:AJ<|AM Unit)(l:A1)(r:AS (AI×AI)<|AM Unit×AH):AS (AI×AI)<|(AJ A1×AJ (Lit×AM Unit))×AH:=match r with
 |.error e=>.error e
 |.ok (d,q)=>.ok ((l::kl.reverse,FH kl ds++[(.string l,d)]),q)
def fM{l:A1}{r':AS (J×J)<|AM Unit×I}(h:GH bs lim r r'):GH bs lim (Qq kl ds l r)<|Qq kl ds l r':=by
 rcases h with rfl|⟨q,a,b,c,x,d⟩
 .exact AF Z
 rw[a,d];exact AG ⟨q,Z,b,c,_,Z⟩
theorem uK{x:AU}(hl:Lm bs l lim)(hi:Cx bs lim p):(CN bs l p=AQ/\Dt bs lim [x] p=.error (D5 bs l p 9))\/(∃c,bs[p]?=H c/\CN bs l p=AP/\¬(p:J)=lim/\((¬c=x/\Dt bs lim [x] p=.error (D5 bs l p 9))\/(c=x/\Cx bs lim (p+1)/\Dt bs lim [x] p=.ok ((),p+1)))):=by
 rw[Dt];rcases hc:bs[p]? with _|c
 .exact AF ⟨Ic hc,by rw[IM hi.1 hc]⟩
 simp only[];by_cases a:(p:J)=lim
 .grind [Hr,Gk]
 rw[Cl a];refine AG ⟨c,Z,J4 hl hi hc a,a,?_⟩;by_cases b:c=x
 .rw[Cp b];exact AG ⟨b,Eu hi hc a,Z⟩
 grind [Id]
theorem uL(hl:Lm bs l lim)(S:∀p:I,(p:J)=lim->p<K bs->rd p=.error (8,(p:J)))(hi:Cx bs lim p){R:AS (J×J)<|(AJ A1×AJ (Lit×AM Unit))×I}(a:FF bs lim rd (kl.reverse,FH kl ds) p=R):(CN bs l p=AQ/\R=.error (D5 bs l p 9))\/∃c,bs[p]?=H c/\CN bs l p=AP/\((¬c.toNat=34/\R=.error (D5 bs l p 9))\/(c.toNat=34/\Cx bs lim (p+1) /\
   ((∃f,DA bs lim (K bs+1-(p+1)) (p+1) [] 0=.error f/\R=.error f)\/∃t r,DA bs lim (K bs+1-(p+1)) (p+1) [] 0=.ok (t,r)/\Cx bs lim r/\p+1<r /\
    ((t∈kl/\R=.error (D5 bs l (r-1) 12))\/(¬t∈kl/\Cx bs lim (EG bs l (K bs+1-r) r) /\
     ((∃f,Dt bs lim [58] (EG bs l (K bs+1-r) r)=.error f/\R=.error f)\/∃b,Dt bs lim [58] (EG bs l (K bs+1-r) r)=.ok ((),b)/\Cx bs lim b/\r<b/\Cx bs lim (EG bs l (K bs+1-b) b)/\b<=EG bs l (K bs+1-b) b/\∀h,GH bs lim (rd<|EG bs l (K bs+1-b) b) h->GH bs lim R (Qq kl ds t h))))))):=by
 unfold FF Jj at a;rcases uK (x:=34) hl hi with⟨i,d⟩|⟨c,v,i,V,⟨d,g⟩|⟨d,g,B⟩⟩
 .grind
 .rw[g]at a;exact AG ⟨c,v,i,AF ⟨λe=>d<|PN.1<|Ca e keJ,a.symm⟩⟩
 rw[B]at a;simp only[]at a;refine AG ⟨c,v,i,AG ⟨by rw[d];rfl,g,?_⟩⟩;rcases ht:DA bs lim (K bs+1-(p+1)) (p+1) [] 0 with f|x
 .grind
 obtain⟨t,r⟩:=x;rw[ht]at a;have y:=TP _ _ _ _ _ _ g ht;have L:=(Qg _ _ _ _ _ _ ht).1;refine AG ⟨t,r,Z,y,L,?_⟩;simp only[aD]at a;by_cases w:t∈kl
 .grind [RO]
 rw[Cl w]at a;simp only[]at a;refine AG ⟨w,?_⟩;rcases MH hl (K bs+1-r) r y with⟨q,k,m,n,N,_⟩|⟨q,k,m,n,N⟩
 .rw[k]at a;rw[m];simp only[]at a;refine⟨n,?_⟩;rcases hw:Dt bs lim [58] q with f|x
  .grind
  obtain⟨_,b⟩:=x;rw[hw]at a;obtain⟨P,o⟩:=RN _ _ _ n hw;simp only[FN,J1]at P;refine AG ⟨b,Z,o,E,?_⟩;simp only[]at a;rcases MH hl (K bs+1-b) b o with⟨Q,s,u,z,A,_⟩|⟨Q,s,u,z,A⟩
  .rw[s]at a;rw[u];refine⟨z,A,λh j=>?_⟩;have F:=fM (kl:=kl) (ds:=ds) (l:=t) j;grind [Qq]
  rw[s]at a;rw[u];refine⟨⟨E,E⟩,AY o.2,λh j=>?_⟩;have F:=fM (kl:=kl) (ds:=ds) (l:=t) j;grind [Qq]
 rw[k]at a;rw[m];refine⟨⟨E,E⟩,AF ⟨_,?_,a.symm⟩⟩;grind [Dt]
def uM{V2:X}{m:I}(h:FU W A y V2)(d:V2.ownsRow (O (U W)+4) 101 5 u m xs)(a:(Az V2 o).grownBy w5<|Ax u):FU W A y w5:=by have g:=h.size;have b:∀j,j<O (U W)+4->w5.heap[j]?=V2.heap[j]?:=λj c=>Ca (a.block j B7 λe=>AY<|DK d e.symm)<|CB _ _ _ E;have f:O (U V2)+1<=O (U w5):=kev;exact⟨Ca (b _ E) h.h,Ca (b _ E) h.b,Ca (b _ E) h.a,Ca (b _ E) h.d,Cs h.ac ⟨a.os,a.tape,a.output,E,λj c=>b j E⟩⟩
def uN{n:J}{s:AT}(h:FU W A (Cg kd n s kv u) V):FU W A (Cg kd n s kv v')<|AB V ⟨O (U W)+3,4,Ao⟩ v':=by have a:∀j,j≠O (U W)+3->(AB V ⟨_,4,Ao⟩ v').heap[j]?=V.heap[j]?:=λj b=>CY V _ _ _ BG;refine⟨Ca (a _ E) h.h,Ca (a _ E) h.b,Ca (a _ E) h.a,?_,Cs h.ac ⟨Z,Z,Z,Bd,λj b=>a j E⟩⟩;rw[DX _ _ _ _ _ _ h.d];rfl
def U0{n:J}{s:AT}{a b:A4}{q:I}:∀u∈[Value.int Y kd,C Y n,.string s,G a i j,G b p q],u.oneCell'=AP:=λu c=>by simp at c;rcases c with rfl|rfl|rfl|rfl|rfl<;>rfl
structure Qr(W W':Ap)(kv u:Aq):Prop where
 os:W'.os=W.os
 tape:W'.tape=W.tape
 output:W'.output=W.output
 size:Au (Av W)<=Au (Av W')
 block:∀j,j<Au (Av W)->An j≠Ax kv->An j≠Ax u->W'.heap[j]?=W.heap[j]?
def U1(h:A0 W W'):Qr W W' kv u:=⟨h.os,h.tape,h.output,h.size,λj a _ _=>Co h j a⟩
def fN(k:AH)(bs:A1)(lim:AI)(W:Ap)(b:AH)(kv u:Aq)(ex:AH->Prop)(kl:AJ A1)(ds:AJ<|AM Unit)(r:AS (AI×AI)<|(AJ A1×AJ (Lit×AM Unit))×AH)(e:Ending)(W':Ap):Prop :=
 Qr W W' kv u/\∃r',GH bs lim r r'/\match r' with
 |.ok (x,q)=>Cx bs lim q/\∃l dd a n c a' n' c',x=(l::kl.reverse,FH kl ds++[(.string l,dd)])/\e=Ak (Af #[.agg<|Cg 7 0 ⟨#[]⟩ (Ac a n c)<|Ac a' n' c',Ab Al q,.agg<|Cf (0,0)])/\G7 k W' b (Ac a n c) (Ac a' n' c') ex (kl++[l]) (ds++[dd])
 |.error f=>∃kd n s a i j b p m z,e=Ak (Af #[.agg<|Cg kd n s (Ac a i j)<|Ac b p m,Ab Al z,.agg<|Cf f])
structure FI(W:Ap)(A y:A3)(V:Ap):Prop where
 h:V.heap[Au (Av W)]?=An (Aj A 115)
 d:V.heap[Au (Av W)+1]?=An (Aj y 101)
 b:V.heap[Au (Av W)+2]?=An (Aj Cv 101)
 a:V.heap[Au (Av W)+3]?=An (Aj (Cf (0,0)) 103)
 ac:A0 W V
structure Kj(W:Ap)(A y:A3)(Z:Ap):Prop where
 h:Z.heap[Au (Av W)]?=An (Aj A 115)
 d:Z.heap[Au (Av W)+1]?=An (Aj y 101)
def FI.s(h:FI W A y V):Kj W A y V:=⟨h.h,h.d⟩
def Kj.set(h:Kj W A y V)(j:I)(cs:A3)(a:O (U W)+2<=j):Kj W A y<|AD V j cs:=⟨sx E h.h,sx E h.d⟩
def Kj.lt(h:Kj W A y V):O (U W)+1<O (U V):=Cd h.d
def Kj.new(h:Kj W A y V)(o:Obj):Kj W A y<|Az V o:=⟨Ca (CB _ _ _<|AY h.lt) h.h,Ca (CB _ _ _ h.lt) h.d⟩
theorem FI.next(h:FI W A y V)(hb:A0 V V'):FI W A y V' :=
 ⟨Ca (Co hb _<|Cd h.h) h.h,Ca (Co hb _<|Cd h.d) h.d,Ca (Co hb _<|Cd h.b) h.b,Ca (Co hb _<|Cd h.a) h.a,Cs h.ac<|CG hb h.ac.size⟩
theorem FI.drew(h:FI W A y V):FI W A y V.drew:=⟨h.h,h.d,h.b,h.a,h.ac.drew⟩
def FI.size(h:FI W A y V):O (U W)+4<=O (U V):=Cd h.a
def FI.set(h:FI W A y V)(j:I)(cs:A3)(a:O (U W)+4<=j):FI W A y (AD V j cs) :=
 ⟨sx E h.h,sx E h.d,sx E h.b,sx E h.a,Dq h.ac E⟩
theorem uO(W:X):FI W A y<|Az (Az (Az (Az W<|M A 115)<|M y 101)<|M Cv 101)<|M (Cf (0,0)) 103:=by have e:=Cj W (o:=(M A 115));have b:=Cj (Az W<|M A 115) (o:=(M y 101));have c:=Cj (Az (Az W<|M A 115)<|M y 101) (o:=(M Cv 101));have a:=Cj (Az (Az (Az W<|M A 115)<|M y 101)<|M Cv 101) (o:=(M (Cf (0,0)) 103));simp only[CL,A0]at b c a;have d:Below _ W<|Az (Az (Az (Az W<|M A 115)<|M y 101)<|M Cv 101)<|M (Cf (0,0)) 103:=(((Cm).alloc Ba _).alloc B7 _).alloc B7 _;refine⟨?_,?_,?_,a,d⟩<;>grind [Below.heap_alloc]
def FI.ai(h:FI W A y V)(z:A3)(x:J×J):(AD (AD V (O (U W)+2) z) (O (U W)+3)<|Cf x).heap[O (U W)+2]?=H (M z 101)/\(AD (AD V (O (U W)+2) z) (O (U W)+3)<|Cf x).heap[O (U W)+3]?=H (M (Cf x) 103)/\A0 W (AD (AD V (O (U W)+2) z) (O (U W)+3)<|Cf x):=by
 refine⟨?_,?_,Dq (Dq h.ac E) E⟩
 .rw[Do _ _ _ _ E];exact CR _ _ _ _ _ _ h.b
 exact CR _ _ _ _ _ _<|sx E h.a
def FI.map(h:FI W A y V)(c:G7 k W b kv u ex kl ds):G7 k V b kv u ex kl ds:=c.next h.ac.size λj _ a _=>Co h.ac j a
structure In(W:Ap)(y:A3)(kv u:Aq)(V:Ap):Prop where
 d:V.heap[Au (Av W)+1]?=An (Aj y 101)
 b:V.heap[Au (Av W)+2]?=An (Aj Cv 101)
 a:V.heap[Au (Av W)+3]?=An (Aj (Cf (0,0)) 103)
 c:Qr W V kv u
def In.size(h:In W y kv u V):O (U W)+4<=O (U V):=Cd h.a
def FI.w(h:FI W A y V)(a u:Aq):In W y a u V:=⟨h.d,h.b,h.a,U1 h.ac⟩
theorem In.drew(h:In W y kv u V):In W y kv u V.drew:=⟨h.d,h.b,h.a,⟨h.c.os,h.c.tape,h.c.output,h.c.size,h.c.block⟩⟩
theorem In.a3(h:In W y kv u V){x:Option I}(hx:∀g,x=H g->g<O (U W)/\(x=Ax kv\/x=Ax u))(a:(Az V o).grownBy w5 x):In W y kv u w5:=by have l:=h.size;have k:O (U V)+1<=O (U w5):=kev;have b:∀j,O (U W)<=j->j<O (U V)->w5.heap[j]?=V.heap[j]?:=λj c i=>Ca (a.block j B7 λe=>B9)<|CB _ _ _ i;refine⟨Ca (b _ E E) h.d,Ca (b _ E E) h.b,Ca (b _ E E) h.a,Ca a.os h.c.os,Ca a.tape h.c.tape,Ca a.output h.c.output,E,λj c d f=>?_⟩;refine Ca (a.block j B7 λe=>?_)<|Ca (CB _ _ _ E)<|h.c.block j c d f;grind
theorem In.cell{n:J}{s:AT}(h:In W (Cg kd n s kx ux) kv u V)(a:Aq):In W (Cg kd n s a ux) kv u (AB V ⟨O (U W)+1,3,Ao⟩ a)/\In W (Cg kd n s kx a) kv u (AB V ⟨O (U W)+1,4,Ao⟩ a):=by
 have b:∀i j,j≠O (U W)+1->(AB V ⟨_,i,Ao⟩ a).heap[j]?=V.heap[j]?:=λi j c=>CY V _ _ _ BO;have d:∀i,Qr W (AB V _ a) kv u:=λi=>⟨h.c.os,h.c.tape,h.c.output,by have:=h.c.size;grind [World.setCell],λj c e f=>Ca (b i j E)<|h.c.block j c e f⟩
 refine⟨⟨?_,Ca (b _ _ E) h.b,Ca (b _ _ E) h.a,d 3⟩,⟨?_,Ca (b _ _ E) h.b,Ca (b _ _ E) h.a,d 4⟩⟩
 .rw[DX _ _ _ _ _ _ h.d];rfl
 rw[DX _ _ _ _ _ _ h.d];rfl
def In.ai(h:In W y kv u V)(z:A3)(x:J×J):(AD (AD V (O (U W)+2) z) (O (U W)+3)<|Cf x).heap[O (U W)+2]?=H (M z 101)/\(AD (AD V (O (U W)+2) z) (O (U W)+3)<|Cf x).heap[O (U W)+3]?=H (M (Cf x) 103)/\Qr W (AD (AD V (O (U W)+2) z) (O (U W)+3)<|Cf x) kv u:=by
 refine⟨?_,?_,h.c.os,h.c.tape,h.c.output,B2 h.c.size,λj c a b=>?_⟩
 .rw[Do _ _ _ _ E];exact CR _ _ _ _ _ _ h.b
 .exact CR _ _ _ _ _ _<|sx E h.a
 rw[Do _ _ _ _ E,Do _ _ _ _ E];exact h.c.block j c a b
theorem uP{L:I}{V12 w13 w13' w14 wf:X}{u':Aq}{t:A1}{d:A2}{a:A3}(o:G7 k W b kv u ex kl ds)(ah:∀j,ex j->j<O (U W))(r:W.ownsRow b 101 5 u (K ds) xs)(h2:∀(i:I) (d:A2),ds[i]?=H d->∃a,Ht xs i a/\CV k W (λj=>b<=j/\j<O (U W)/\H j≠Ax u/\¬(H j=Ax kv\/ex j)) (.agg a) d)(hb:b<=O (U W))(aa:∀j,j<O (U W)->V12.heap[j]?=W.heap[j]?)(ac:CV k V12 (λj=>L<=j/\j<S) (.agg a) d)(hL:O (U W)+4<=L)(hS:S<=O (U V12))(h4:O (U W)+4<=O (U V12))(ha:a.size=5)(x:w13.ownsRow b 9 1 v' (K kl+1)<|kl.map CX++[CX t])(ai:∀j,j<O (U V12)->H j≠Ax kv->w13.heap[j]?=V12.heap[j]?)(Q:Ax v'=Ax kv\/Ax v'=H (O (U V12)+1))(an:O (U V12)+1<=O (U w13))(af:∀j,j≠O (U W)+1->w13'.heap[j]?=w13.heap[j]?)(ar:O (U w13')=O (U w13))(A:w14.ownsRow b 101 5 u' (K ds+1)<|xs++a.toList)(aj:∀j,j<O (U w13')->H j≠Ax u->w14.heap[j]?=w13'.heap[j]?)(ae:Ax u'=Ax u\/Ax u'=H (O (U w13')+1))(ao:O (U w13')+1<=O (U w14))(hf:∀j,(j<O (U W)\/O (U W)+4<=j)->wf.heap[j]?=w14.heap[j]?)(au:O (U w14)<=O (U wf)):G7 k wf b v' u' ex (kl++[t])<|ds++[d]:=by
 have am:∀g,Ax kv=H g->g<O (U W):=λg e=>En o.q e;have ap:∀g,Ax u=H g->g<O (U W):=λg e=>En r e;have aq:∀g,Ax v'=H g->g<O (U w13):=λg e=>En x e;have y:∀j,(j<O (U W)\/O (U W)+4<=j)->j<O (U V12)->H j≠Ax kv->H j≠Ax u->wf.heap[j]?=V12.heap[j]?:=λj c al m n=>B9;have B:∀j,j<O (U V12)->H j≠Ax kv->¬H j=Ax v':=λj c m e=>B9;have F:∀j,j<O (U V12)->H j≠Ax u->H j≠Ax u':=λj c m e=>B9;have ag:∀g,Ax v'=H g->¬(Ax u)=H g:=λg e n=>by
  rcases Q with h|h
  .exact o.e g (Ca h.symm e) n
  grind
 refine⟨?_,⟨xs++a.toList,?_,λi V f=>?_⟩,by rw[Dj,Dj,o.len];rfl,λg m n=>?_,λg e l=>?_,λg e l=>?_⟩
 .rw[Dj,Ka];refine⟨x.1,?_⟩;rcases x.2 with h|⟨g,p,q,e,v,l,s⟩
  .exact AF h
  have ak:=Cd l;have ab:Ax v'=H g:=kfs;have ad:g<O (U W)\/O (U W)+4<=g:=B9;refine AG ⟨g,p,q,e,v,?_,s⟩;grind
 .rw[Dj];refine⟨A.1,?_⟩;rcases A.2 with h|⟨g,p,q,e,v,l,s⟩
  .exact AF h
  have ab:Ax u'=H g:=kfs;have ad:g<O (U W)\/O (U W)+4<=g:=B9;refine AG ⟨g,p,q,e,v,?_,s⟩;grind
 .by_cases z:i<K ds
  .rw[Hg z]at f;obtain⟨R,m,n⟩:=h2 i V f;exact⟨R,Xy r.1 z m,n.same (λj c=>⟨c.1,AY c.2.1,F j (AY c.2.1) c.2.2.1,λw=>w.elim (B j (AY c.2.1) λe=>c.2.2.2<|AF e) λe=>c.2.2.2<|AG e⟩) λj c=>Ca (y j (AF c.2.1) (AY c.2.1) (λe=>c.2.2.2<|AF e) c.2.2.1)<|aa j c.2.1⟩
  have e:i=K ds:=B9;subst e;rw[Jc<|Cr _,Rf]at f;injection f with f;subst f;have N:∀j,O (U W)<=j->H j≠Ax kv:=λj c e=>B9;have P:∀j,O (U W)<=j->H j≠Ax u:=λj c e=>B9;exact⟨a,Xz r.1 ha,ac.same (λj c=>⟨AY c.1,AY c.2,F j (AY c.2)<|P j<|AY c.1,λw=>w.elim (B j (AY c.2)<|N j<|AY c.1) λe=>B9⟩) λj c=>y j (AG<|AY c.1) (AY c.2) (N j<|AY c.1)<|P j<|AY c.1⟩
 .grind
 .rcases Q with h|h
  .exact o.a g (Ca h.symm e) l
  grind
 rcases ae with h|h
 .exact o.d g (Ca h.symm e) l
 grind
def Tryz.infoStrR:(prog.info? 9).map (λi=>(i.zero,i.size,i.bytes))=H (H<|.string ByteArray.empty,1,16):=B6
def fO{l:AT}:∀u∈[Value.string l],u.oneCell'=AP:=λu a=>by simp at a;subst a;rfl
def M8{x:Option I}(a:(Az V o).grownBy w5 x)(b:j<O (U V))(hx:H j≠x):w5.heap[j]?=V.heap[j]?:=(a.block j B7 hx).trans<|CB _ _ _ b
theorem uQ{ka ua:A4}{kn kc un uc:I}(hl:Lm bs l lim)(hi:Cx bs lim i)(hb:K bs<=281474976710656)(dm:lim<=200000000)(hm:G7 k W b (G ka kn kc) (G ua un uc) ex kl ds)(dl:K kl<=200000000)(cs:∀ai:I,(ai:J)=lim->ai<K bs->rd ai=.error (8,(ai:J)))(dj:b<=O (U W))(cq:∀j,ex j->j<O (U W))(d3:0<=dp)(d4:dp<=100000)(cJ:∀V (ai:I),Cx bs lim ai->Ar As 90 #[.agg<|Ct bs fm d l,C Y ai,C Y<|dp+1] V (Fc k bs lim V<|rd ai)):Ar As 164 #[.agg<|Ct bs fm d l,.agg<|Cg 7 0 ⟨#[]⟩ (G ka kn kc)<|G ua un uc,C Y i,C Y dp] W<|fN k bs lim W b (G ka kn kc) (G ua un uc) ex kl ds<|FF bs lim rd (kl.reverse,FH kl ds) i:=by
 obtain⟨dh,hR⟩:=DF<|FF bs lim rd (kl.reverse,FH kl ds) i;rw[hR];have HM:=C9 hm;have HX:D<|FI W (Ct bs fm d l) (Cg 7 0 ⟨#[]⟩ (G ka kn kc)<|G ua un uc)<|Az (Az (Az (Az W<|Aj #[Ae ⟨Aw bs⟩,C Y fm,C Y d,C Y l] 115)<|Aj #[C Y 7,C Y 0,Ae ⟨#[]⟩,G ka kn kc,G ua un uc] 101)<|Aj #[C Y 0,C Y 0,Ae ⟨#[]⟩,G Ao 0 0,G Ao 0 0] 101)<|Aj #[C Y 0,C Y 0] 103:=uO W;have b3:=λV (h:G7 k V b (G ka kn kc) (G ua un uc) ex kl ds) t=>df (F:=(λ_=>True)) t (P5 h.q λ_ _ _=>trivial) dl;rcases uL hl cs hi hR with⟨h1,h2⟩|⟨cn,hc,h1,⟨hv,h2⟩|⟨hv,cr,h⟩⟩
 case' inr.inr=>have dk:=Et hc;have d1:((cn.toNat:J) != 34)=AQ:=by rw[hv];rfl
 case' inr.inr=>have cQ:=λV=>eM V fm d hl cr hb dm;unfold Ct at cQ;rcases h with⟨F,hr,h2⟩|⟨tt,ac,hr,bn,d6,⟨bm,h2⟩|⟨bm,hq,⟨F,hw,h2⟩|⟨p3,hw,cv,dr,cw,dn,cp⟩⟩⟩
 case' inr.inr.inr.inr.inr =>
  have bq:D (∀V (ai:I),Cx bs lim ai->Ar As 90 #[Ag #[Ae ⟨Aw bs⟩,C Y fm,C Y d,C Y l],C Y ai,C Y<|dp+1] V (Fc k bs lim V<|rd ai)):=cJ;obtain⟨si,dw,dt,du,dv⟩:=DL Tryz.infoStrR;obtain⟨ti,d0,dx,dy,dz⟩:=DL Tryz.infoThR;have bw:=C9 cw;have da:=C9 cp;have bp:=C9 dj;have c6:=C9 cq;obtain⟨xs,cy,cx⟩:=hm.c;have ba:=C9 cy;have dg:=C9 cx;have co:=λV=>Tx V fm d l hb cv.1;have d5:=cv.1;generalize EG bs l (K bs+1-p3) p3=p4 at *;obtain⟨F,bf⟩:∃F:J×J,D<|F=(0,0):=⟨_,show _=_ from rfl⟩
  have h2:True:=trivial;clear cy cx cw cp dn dr
 case' inl=>have cB:=NJ fm d (rfl:D5 bs l i 9=_)
 case' inr.inl=>have dk:=Et hc;have cB:=NJ fm d (rfl:D5 bs l i 9=_);have d1:((cn.toNat:J) != 34)=AP:=B7
 case' inr.inr.inl =>
  have ct:(F.1==0)=AQ:=B2<|RJ (bs:=bs) (lim:=lim) _ _ _ _ F.1 F.2 hr;obtain⟨ao,HG⟩:∃ao,D<|ao=F:=⟨_,show _=_ from rfl⟩
  rw[<-AE HG]at hr ct;rw[hr]at cQ;dsimp only[NU]at cQ;let zb:I:=40
 case' inr.inr.inr.inl =>
  have dq:=bn.1;rw[hr]at cQ;have cK:=λV h=>b3 V h tt;rw[Fm bm]at cK;have cB:∀V,Ar As 84 #[Ag #[Ae ⟨Aw bs⟩,C Y fm,C Y d,C Y l],C Y<|(ac:J)-1,C Y 12] V λe W'=>e=Ak (.agg<|Cf<|D5 bs l (ac-1) 12)/\A0 V W':=λV=>by have h:=M1 V bs fm d l (ac-1) 12;rw[show((ac-1:I):J)=(ac:J)-1 by omega]at h;exact h
 all_goals try
  have h:=hw;clear h;rw[hr]at cQ;have cK:=λV h=>b3 V h tt;rw[FO bm]at cK;have cS:=λV=>Tx V fm d l hb bn.1;have cW:∀V,Ar As 127 #[Ag #[Ae ⟨Aw bs⟩,C Y fm,C Y d,C Y l],C Y<|EG bs l (K bs+1-ac) ac,Ae ⟨#[58]⟩] V λe W'=>e=Ak (Tz<|Dt bs lim [58]<|EG bs l (K bs+1-ac) ac)/\A0 V W':=λV=>WT V fm d [58] B8 hl hq hb;rw[hw]at cW;dsimp only[Ct,Tz]at cW
  first
   |have cu:(F.1==0)=AQ:=by have:=MJ (bs:=bs) (lim:=lim) _ _ F.1 F.2 hw;simpa using this
    let zb:I:=63;let z0:J:=0
   |have cu:(F.1==0)=AP:=by rw[AE bf];rfl
    rw[<-AE bf]at cW;let z0:J:=p3
  have dq:=bn.1;generalize EG bs l (K bs+1-ac) ac=q2 at *
 all_goals
  try
   dsimp only[NU]at cQ;obtain⟨ao,HG⟩:∃ao:J×J,D<|ao=(0,0):=⟨_,show _=_ from rfl⟩
   rw[<-AE HG]at cQ;have ct:(ao.1==0)=AP:=by rw[AE HG];rfl
  have HE:=C9 h2;have cH:=GI fm d h1;clear h2 hR h1 b3 hl hi cs cJ hm cq
  try clear hc
  try clear hr hv cr
  try clear bm bn
  try clear hw hq
  unfold Ct Cg;go_enter func164,ntmps164
  go_wp2_with(first
   |(go_at_call 116;refine Ec (cH _) HX.next (λ_ h=>h.h) ?_;clear cH;intro w2 o c0 c1 c2 c3;have k3:A6 w2 (O (U W)+1) 3<|G ka kn kc:=Cc o.d 3)
   |(go_at_call 128;refine ck (cQ _) o.next ?_;clear cQ;intro w3 cl)
   |(go_at_call 169;refine(cK _<|o.map HM).mono ?_;clear cK;rintro e V4 ⟨rfl,rfl⟩)
   |((with_reducible refine zF 12 36 rfl rfl (O<|U w3) ao ?_ ?_);exact⟨Z,Z,Cj w3⟩;refine FA ?_;intro V4 bo;clear o;have o:=C9<|bo▸cl.next (KO);have aj:=C9<|bo▸CR _ _ _ _ _ _ (Cj _);have an:=C9 cl.size;have cg:=C9<|Cd aj;clear bo;generalize O (U w3)=M at *;clear c0 c1 c2 c3 k3;obtain⟨c0,c1,c2,c3⟩:=Eb o.h;have k3:A6 V4 (O (U W)+1) 3<|G ka kn kc:=Cc o.d 3;have u0:A6 V4 M 0<|C Y ao.1:=Cc aj 0))
 all_goals try
  have h:=cW;clear h;refine Dl (S:=λn=>Kj W (Ct bs fm d l) (Cg 7 0 ⟨#[]⟩ (G ka kn kc)<|G ua un uc) n) o.drew.s B6 λm=>Ch 0 53 (Ag #[Ae ⟨Aw bs⟩,C Y fm,C Y d,C Y l]) Z (λn u=>yI 4 u.h Z Z) m <| Ch 1 54 (Ag #[Ae ⟨Aw bs⟩,C Y fm,C Y d,C Y l]) Z (λn u=>yI 4 u.h Z Z) m <| Cb 2 55 (C Y ac) m <| CH 3 λak a=>?_;go_simp;refine(cS _).mono ?_;rintro e w5 ⟨rfl,b4⟩;simp only[];have b0:=C9<|o.drew.next b4;have br:=C9<|(b4.block _ cg).trans aj;refine a.out _ _ b0.s λ_=>?_;refine CH 4 λak a=>?_;go_simp;refine(cW _).mono ?_;rintro e w6 ⟨rfl,b5⟩;simp only[];have cm:=C9<|b0.next b5;have bt:=C9<|(b5.block _<|Cd br).trans br;have av:=cm.s;refine a.out _ _ av λ_=>?_;refine Cb 5 52 (Af #[C Y z0,.agg<|Cf F]) av <| Cb 6 58 (C Y z0) av <| Cb 7 59 (.agg<|Cf F) av <| Cb 8 2 (C Y z0) av ?_;rw[AE HG]at bt;refine sF 9 12 59 B6 bt (av.set M (Cf F)<|AY<|AE an) <| CK ?_;dsimp only[z0];go_simp;clear o aj u0 c0 c1 c2 c3 k3 m av b0 br cg b4 b5;have o:=C9<|cm.set M (Cf F) an;have aj:=C9<|show(AD w6 M<|Cf F).heap[M]?=_ from CR _ _ _ _ _ _ bt;generalize AD w6 M (Cf F)=V7 at *;clear HG;have u0:A6 V7 M 0<|C Y F.1:=Cc aj 0;go_wp2
 all_goals try
  have h:=aj
  try rw[AE HG]at aj
  refine Dl (S:=λn=>Kj W (Ct bs fm d l) (Cg 7 0 ⟨#[]⟩ (G ka kn kc)<|G ua un uc) n/\A7 n M (Cf F) 103) ⟨o.drew.s,aj⟩ B6 λm=>Ch 0 zb (.agg<|Cg 7 0 ⟨#[]⟩ (G ka kn kc)<|G ua un uc) Z (λn u=>yT 5 u.1.d Z Z) m <| Ch 1 (zb+1) (.agg<|Cf F) Z (λn u=>yF 12 u.2 Z Z) m ?_;have ah:=OK (m.1.set (O (U W)+2) (Cg 7 0 ⟨#[]⟩ (G ka kn kc)<|G ua un uc)<|Cr _)<|(Do _ (O (U W)+2) M (Cg 7 0 ⟨#[]⟩ (G ka kn kc)<|G ua un uc)<|AY<|AE an).trans m.2;refine Ii 2 8 zb B6 o.drew.b thg ah <| Cb 3 9 (C Y 0) ah <| sF 4 10 (zb+1) (F:=F) B6 (sx E o.drew.a) ⟨ah.1.set (O (U W)+3) (Cf F) E,sx (AY<|AE an) ah.2⟩ <| CK ?_;dsimp only[zb];go_simp;go_wp2;refine F4 results164 (o.drew.ai (Cg 7 0 ⟨#[]⟩ (G ka kn kc)<|G ua un uc) F) (C Y 0) Z Z Z Z ⟨U1 (o.drew.ai (Cg 7 0 ⟨#[]⟩ (G ka kn kc)<|G ua un uc) F).2.2,?_⟩;exact⟨.error F,AF HE,_,_,_,_,_,_,_,_,_,_,Z⟩
 rotate_right
 next =>
  have b2:=o;have ay:=aj;rw[AE bf]at ay;clear o aj bf cu u0 HE;refine Dl (S:=λn=>Kj W (Ct bs fm d l) (Cg 7 0 ⟨#[]⟩ (G ka kn kc)<|G ua un uc) n) (b2.drew.s) B6 λm=>Ch 0 66 (Ag #[Ae ⟨Aw bs⟩,C Y fm,C Y d,C Y l]) Z (λn u=>yI 4 u.h Z Z) m <| Ch 1 67 (Ag #[Ae ⟨Aw bs⟩,C Y fm,C Y d,C Y l]) Z (λn u=>yI 4 u.h Z Z) m <| Cb 2 68 (C Y p3) m <| Cb 4 70 (C Y dp) m <| Ch 5 71 (C Y<|dp+1) Z (λn u=>Bo) m <| Hj 3 11 (λak a=>?_) (λak a=>?_)
  focus
   go_simp;refine(co _).mono ?_;rintro e w8 ⟨rfl,a5⟩;simp only[];have a4:=C9<|b2.drew.next a5;have am:=C9<|(a5.block _<|Cd<|show V7.heap[M]?=_ from ay).trans ay;have b7:=a4.s;refine a.out _ _ b7 λ_=>?_;clear a;refine Hj 6 11 (λak a=>?_) (λak a=>?_)
   focus
    go_simp;refine(bq _ p4 bw).mono ?_;rintro e f aq;obtain⟨af,r',N,Q,s,v,A,B,y,q1,P,ae,F,ap,rfl,hA,hF⟩:=MM aq;simp only[];have bv:=C9 ap;have bu:=C9 hF;have p:=C9<|a4.next af;have be:=C9<|(af.block _<|Cd<|show w8.heap[M]?=_ from am).trans am;have a6:=C9 hA;have ch:=C9<|Cd<|show w8.heap[M]?=_ from am;clear aq ap hA hF af;have bc:=p.s;refine a.out _ _ bc λ_=>?_;clear a;refine Cb 7 65 (Af #[.agg<|Cg N Q s (G v A B)<|G y q1 P,C Y ae,.agg<|Cf F]) bc <| Cb 8 73 (.agg<|Cg N Q s (G v A B)<|G y q1 P) bc <| Cb 9 74 (C Y ae) bc <| Cb 10 75 (.agg<|Cf F) bc <| CH 11 λak a=>?_;go_simp;have au:D<|FI W (Ct bs fm d l) (Cg 7 0 ⟨#[]⟩ (G ka kn kc)<|G ua un uc)<|Az f<|Aj Cv 101:=p.next Cm
    have a7:D<|(Az f<|Aj Cv 101).heap[M]?=H (Aj (Cf (0,0)) 103):=(CB _ _ _<|Cd<|show f.heap[M]?=_ from be).trans be;have a9:D<|(Az f<|Aj Cv 101).heap[O<|U f]?=H (Aj Cv 101):=Cj _;have a8:=C9<|Cd<|show f.heap[M]?=_ from be;have al:D (∀R q,r'=.ok (R,q)->Cx bs lim q/\ae=(q:J)/\F=(0,0)/\CV k (Az f<|Aj Cv 101) (λj=>O (U w8)<=j/\j<O (U f)) (.agg<|Cg N Q s (G v A B)<|G y q1 P) R):=λR q h=>⟨(a6 R q h).1,(a6 R q h).2.1,(a6 R q h).2.2.1,(a6 R q h).2.2.2.same (λ_ h=>h) λj hj=>CB _ _ _ hj.2⟩
    have a2:D<|O (U f)<O (U w8)\/O (U f)<=O (U f):=AG<|Cr _;have a0:D<|O (U f)<=O (U<|Az f<|Aj Cv 101):=kfV;have aa:=au.s;refine a.out _ (Az f<|Aj Cv 101) aa λ_=>?_;clear a;generalize Az f (Aj Cv 101)=z at *;obtain⟨S,aw⟩:=IA<|O<|U f;rw[<-aw]at al a2 a0;generalize O (U f)=T at *;clear p be a6;generalize O (U w8)=L at *
   rotate_left
   focus
    go_simp;have bb:D<|FI W (Ct bs fm d l) (Cg 7 0 ⟨#[]⟩ (G ka kn kc)<|G ua un uc)<|Az w8<|Aj Cv 101:=a4.next Cm
    have az:D<|(Az w8<|Aj Cv 101).heap[M]?=H (Aj (Cf (0,0)) 103):=(CB _ _ _<|Cd<|show w8.heap[M]?=_ from am).trans am;have a3:D<|(Az w8<|Aj Cv 101).heap[O<|U w8]?=H (Aj Cv 101):=Cj _;have a8:=C9<|Cd<|show w8.heap[M]?=_ from am;have b8:=bb.s;refine a.out _ (Az w8<|Aj Cv 101) b8 λ_=>?_;clear a;generalize Az w8 (Aj Cv 101)=Va at *;generalize O (U w8)=T at *;refine CH 6 λak a=>?_;go_simp;refine(bq _ p4 bw).mono ?_;rintro e z aq;obtain⟨af,r',N,Q,s,v,A,B,y,q1,P,ae,F,ap,rfl,hA,hF⟩:=MM aq;simp only[];have bv:=C9 ap;have bu:=C9 hF;have au:=C9<|bb.next af;have a7:=C9<|(af.block _<|Cd<|show Va.heap[M]?=_ from az).trans az;have al:=C9 hA;have ch:=C9<|Cd<|show Va.heap[M]?=_ from az;have a9:=C9<|(af.block _<|Cd<|show Va.heap[T]?=_ from a3).trans a3;have a2:D<|T<O (U Va)\/O (U z)<=T:=AF<|Cd<|show Va.heap[T]?=_ from a3;have a0:D<|O (U z)<=O (U z):=Cr _;clear aq ap hA hF af;have aa:=au.s;refine a.out _ _ aa λ_=>?_;clear a;obtain⟨S,aw⟩:=IA<|O<|U z;rw[<-aw]at al a2;have a0:=C9<|OG aw;generalize O (U Va)=L at *;refine Cb 7 65 (Af #[.agg<|Cg N Q s (G v A B)<|G y q1 P,C Y ae,.agg<|Cf F]) aa <| Cb 8 73 (.agg<|Cg N Q s (G v A B)<|G y q1 P) aa <| Cb 9 74 (C Y ae) aa <| Cb 10 75 (.agg<|Cf F) aa ?_
  rotate_left 2
  focus
   go_simp;have bb:D<|FI W (Ct bs fm d l) (Cg 7 0 ⟨#[]⟩ (G ka kn kc)<|G ua un uc)<|V7.drew.alloc<|Aj Cv 101:=b2.drew.next Cm
   have az:D<|(V7.drew.alloc<|Aj Cv 101).heap[M]?=H (Aj (Cf (0,0)) 103):=(CB _ _ _<|Cd<|show V7.drew.heap[M]?=_ from ay).trans ay;have a3:D<|(V7.drew.alloc<|Aj Cv 101).heap[O<|U V7]?=H (Aj Cv 101):=Cj _;have a8:D<|M<O (U V7):=Cd<|show V7.drew.heap[M]?=_ from ay;have b8:=bb.s;refine a.out _ (V7.drew.alloc<|Aj Cv 101) b8 λ_=>?_;clear a;generalize V7.drew.alloc (Aj Cv 101)=Va at *;generalize O (U V7)=T at *;refine CH 3 λak a=>?_;go_simp;refine(co _).mono ?_;rintro e w8 ⟨rfl,a5⟩;simp only[];have a4:=C9<|bb.next a5;have am:=C9<|(a5.block _<|Cd<|show Va.heap[M]?=_ from az).trans az;have bx:=C9<|(a5.block _<|Cd a3).trans a3;have b7:=a4.s;refine a.out _ _ b7 λ_=>?_;clear a;refine CH 6 λak a=>?_;go_simp;refine(bq _ p4 bw).mono ?_;rintro e z aq;obtain⟨af,r',N,Q,s,v,A,B,y,q1,P,ae,F,ap,rfl,hA,hF⟩:=MM aq;simp only[];have bv:=C9 ap;have bu:=C9 hF;have au:=C9<|a4.next af;have a7:=C9<|(af.block _<|Cd<|show w8.heap[M]?=_ from am).trans am;have al:=C9 hA;have ch:=C9<|Cd<|show w8.heap[M]?=_ from am;have a9:=C9<|(af.block _<|Cd<|show w8.heap[T]?=_ from bx).trans bx;have a2:D<|T<O (U w8)\/O (U z)<=T:=AF<|Cd<|show w8.heap[T]?=_ from bx;have a0:D<|O (U z)<=O (U z):=Cr _;clear aq ap hA hF af;have aa:=au.s;refine a.out _ _ aa λ_=>?_;clear a;obtain⟨S,aw⟩:=IA<|O<|U z;rw[<-aw]at al a2;have a0:=C9<|OG aw;generalize O (U w8)=L at *;refine Cb 7 65 (Af #[.agg<|Cg N Q s (G v A B)<|G y q1 P,C Y ae,.agg<|Cf F]) aa <| Cb 8 73 (.agg<|Cg N Q s (G v A B)<|G y q1 P) aa <| Cb 9 74 (C Y ae) aa <| Cb 10 75 (.agg<|Cf F) aa ?_
  all_goals
   have bl:=aa.set T (Cg N Q s (G v A B)<|G y q1 P) (by grind [D]);refine Ii 12 14 73 B6 (a9) thg (bl) <| Cb 13 2 (C Y ae) bl <| sF 14 12 75 B6 (sx (AY<|AE a8) a7) (bl.set M (Cf F)<|AY<|AE an) <| CK ?_;go_simp;have ar:D<|FI W (Ct bs fm d l) (Cg 7 0 ⟨#[]⟩ (G ka kn kc)<|G ua un uc)<|AD (AD z T<|Cg N Q s (G v A B)<|G y q1 P) M<|Cf F:=(au.set T _<|by grind [D]).set M _ an;have ci:D<|(AD (AD z T<|Cg N Q s (G v A B)<|G y q1 P) M<|Cf F).heap[T]?=H (Aj #[C Y N,C Y Q,.string s,G v A B,G y q1 P] 101):=sx (AY<|AE a8)<|CR _ _ _ _ _ _ a9;have cd:D<|(AD (AD z T<|Cg N Q s (G v A B)<|G y q1 P) M<|Cf F).heap[M]?=H (Aj (Cf F) 103):=CR _ _ _ _ _ _<|sx (AY<|AE a8) a7;have c5:D (∀R q,r'=.ok (R,q)->Cx bs lim q/\ae=(q:J)/\F=(0,0)/\CV k (AD (AD z T<|Cg N Q s (G v A B)<|G y q1 P) M<|Cf F) (λj=>L<=j/\j<S) (.agg<|Cg N Q s (G v A B)<|G y q1 P) R):=λR q h=>⟨(al R q h).1,(al R q h).2.1,(al R q h).2.2.1,(al R q h).2.2.2.same (λ_ h=>h) λj hj=>by grind [D,setRow_other]⟩
   have db:D<|S<=O (U<|AD (AD z T<|Cg N Q s (G v A B)<|G y q1 P) M<|Cf F):=Bv;generalize AD (AD z T<|Cg N Q s (G v A B)<|G y q1 P) M (Cf F)=V12 at *;have cf:=C9<|(ar.map HM).q;clear aa bl au a7 a9 al a0 a2;have k3:A6 V12 (O (U W)+1) 3<|G ka kn kc:=Cc ar.d 3
   go_wp2_with(first
    |(at_builtin;(refine JG Z Z underlying98 dw dt du dv Z B8 Z (cf.alloc _) 1 1 Z Z (EU) (fO) B8 Bc E (by have:=ar.size;have:=AE bp;simp;omega) ?_);intro v' c b9 ax cz;obtain⟨r,x,rfl⟩:=ownsRow_succ b9;have bi:D<|In W (Cg 7 0 ⟨#[]⟩ (G ka kn kc)<|G ua un uc) (G ka kn kc) (G ua un uc) c:=(ar.w _ _).a3 (λg e=>⟨En HM.q e,AF Z⟩) ax;have d2:=C9 ((M8 ax (Cd ci) λe=>by have:=En HM.q e.symm;grind [D]).trans ci);have c7:=C9<|(M8 ax (Cd cd) λe=>B3 (En HM.q e.symm)<|AE an).trans cd;have dc:=C9 (NZ ba λj e h1 h2=>(M8 ax (by grind [D]) λe2=>HM.e j e2.symm e).trans<|ar.ac.block j h2);have bg:D<|c.ownsRow b 9 1 (G (Aa r) (K kl+1) x) (K kl+1) (kl.map CX++[CX tt])/\(∀j,j<O (U V12)->H j≠Ax (AX ka kn kc)->c.heap[j]?=V12.heap[j]?)/\(Ax (AX (Aa r) (K kl+1) x)=Ax (AX ka kn kc)\/Ax (AX (Aa r) (K kl+1) x)=H (O (U V12)+1))/\O (U V12)+1<=O (U c):=⟨b9,λj h1 h2=>M8 ax h1 h2,cz.imp_right λh=>Bv,by have:=ax.size;simp_all⟩;clear b9 ax cz k3 cf;have k3:A6 c (O (U W)+1) 3<|G ka kn kc:=Cc bi.d 3;have f3:=Dy c (O (U W)+1) 3 _ _ bi.d;have k4:(AB c ⟨O (U W)+1,3,Ao⟩<|G (Aa r) (K kl+1) x).cell? ⟨O (U W)+1,4,Ao⟩=H (G ua un uc):=Cc (bi.cell _).1.d 4)
    |((with_reducible refine CO rfl 101 (.tmp 14) rfl (T) ?hx 101 (#[C Y N,C Y Q,.string s,G v A B,G y q1 P]) (0,0) _ ?hg underlying101 rfl ?hi ?_);(case hx=>exact rfl);(case hg=>grind [D,heap_setCell_other]);(case hi=>exact KG);have cj:D<|In W (Cg 7 0 ⟨#[]⟩ (G (Aa r) (K kl+1) x)<|G ua un uc) (G ka kn kc) (G ua un uc)<|AB c ⟨O (U W)+1,3,Ao⟩<|G (Aa r) (K kl+1) x:=(bi.cell _).1;have ce:D<|(AB c ⟨O (U W)+1,3,Ao⟩<|G (Aa r) (K kl+1) x).heap[M]?=H (Aj (Cf F) 103):=(CY c _ _ _<|by grind [D]).trans c7;have de:D<|(AB c ⟨O (U W)+1,3,Ao⟩<|G (Aa r) (K kl+1) x).ownsRow b 101 5 (G ua un uc) (K ds) xs:=NZ dc λj e h1 h2=>CY c _ _ _<|B0<|En ba e;have cb:D<|(∀j,j≠O (U W)+1->(AB c ⟨O (U W)+1,3,Ao⟩<|G (Aa r) (K kl+1) x).heap[j]?=c.heap[j]?)/\O (U<|AB c ⟨O (U W)+1,3,Ao⟩<|G (Aa r) (K kl+1) x)=O (U c):=⟨λj hj=>CY c _ _ _ kf1,Bd⟩;generalize AB c ⟨O (U W)+1,3,Ao⟩ (G (Aa r) (K kl+1) x)=V13 at *;clear k3 f3)
    |(at_builtin;(refine JG Z Z underlying99 d0 dx dy dz Z B8 Z (de.alloc _) 1 1 Z Z (EU) (U0) B8 (B4 HM.len) (AY HM.len) (by have:=cj.size;have:=AE bp;simp;omega) ?_);intro d7 ad ca bd c4;obtain⟨g2,ab,rfl⟩:=ownsRow_succ ca;have bz:=C9<|cj.a3 (λg e=>⟨En ba e,AG Z⟩) bd;have c8:=C9<|(M8 bd (Cd ce) λe=>B3 (En ba e.symm)<|AE an).trans ce;have bh:D<|ad.ownsRow b 101 5 (G (Aa g2) (K ds+1) ab) (K ds+1) (xs++[C Y N,C Y Q,.string s,G v A B,G y q1 P])/\(∀j,j<O (U V13)->H j≠Ax (AX ua un uc)->ad.heap[j]?=V13.heap[j]?)/\(Ax (AX (Aa g2) (K ds+1) ab)=Ax (AX ua un uc)\/Ax (AX (Aa g2) (K ds+1) ab)=H (O (U V13)+1))/\O (U V13)+1<=O (U ad):=⟨ca,λj h1 h2=>M8 bd h1 h2,c4.imp_right λh=>Bv,by have:=bd.size;simp_all⟩;clear ca bd c4 k4;have k4:A6 ad (O (U W)+1) 4<|G ua un uc:=Cc bz.d 4;have f4:=Dy ad (O (U W)+1) 4 _ _ bz.d))
   have bj:D<|In W (Cg 7 0 ⟨#[]⟩ (G (Aa r) (K kl+1) x)<|G (Aa g2) (K ds+1) ab) (G ka kn kc) (G ua un uc)<|AB ad ⟨O (U W)+1,4,Ao⟩<|G (Aa g2) (K ds+1) ab:=(bz.cell _).2;have c9:D<|(AB ad ⟨O (U W)+1,4,Ao⟩<|G (Aa g2) (K ds+1) ab).heap[M]?=H (Aj (Cf F) 103):=(CY ad _ _ _<|by grind [D]).trans c8;have cc:D<|(∀j,j≠O (U W)+1->(AB ad ⟨O (U W)+1,4,Ao⟩<|G (Aa g2) (K ds+1) ab).heap[j]?=ad.heap[j]?)/\O (U<|AB ad ⟨O (U W)+1,4,Ao⟩<|G (Aa g2) (K ds+1) ab)=O (U ad):=⟨λj hj=>CY ad _ _ _ kf1,Bd⟩
   generalize AB ad ⟨O (U W)+1,4,Ao⟩ (G (Aa g2) (K ds+1) ab)=V15 at *;clear k4 f4;refine Dl (S:=λn=>A7 n (O (U W)+1) (Cg 7 0 ⟨#[]⟩ (G (Aa r) (K kl+1) x)<|G (Aa g2) (K ds+1) ab) 101/\A7 n M (Cf F) 103) (⟨bj.d,c9⟩) B6 λm=>Ch 0 88 (.agg<|Cg 7 0 ⟨#[]⟩ (G (Aa r) (K kl+1) x)<|G (Aa g2) (K ds+1) ab) Z (λn u=>yT 5 u.1 Z Z) m <| Cb 1 89 (C Y ae) m <| Ch 2 90 (.agg<|Cf F) Z (λn u=>yF 12 u.2 Z Z) m ?_;have bk:=OK ((Do _ (O (U W)+2) (O (U W)+1) (Cg 7 0 ⟨#[]⟩ (G (Aa r) (K kl+1) x)<|G (Aa g2) (K ds+1) ab) E).trans m.1)<|(Do _ (O (U W)+2) M (Cg 7 0 ⟨#[]⟩ (G (Aa r) (K kl+1) x)<|G (Aa g2) (K ds+1) ab)<|AY<|AE an).trans m.2;refine Ii 3 8 88 B6 (bj.drew.b) thg (bk) <| Cb 4 9 (C Y ae) bk <| sF 5 10 90 (g:=(O (U W)+3)) (F:=F) B6 (sx E bj.drew.a) (⟨sx E bk.1,sx (AY<|AE an) bk.2⟩) <| CK ?_;go_simp;go_wp2;have hf:=bj.drew.ai (Cg 7 0 ⟨#[]⟩ (G (Aa r) (K kl+1) x)<|G (Aa g2) (K ds+1) ab)<|F;refine F4 results164 hf (C Y ae) Z Z Z Z ⟨hf.2.2,?_⟩;refine⟨Qq kl ds tt r',da r' bv,?_⟩;obtain di|ag:=r'
   .obtain rfl:=bu.out di rfl;exact⟨_,_,_,_,_,_,_,_,_,_,Z⟩
   obtain⟨R,q⟩:=ag;obtain⟨hq,rfl,rfl,hA⟩:=c5.out R q rfl;refine⟨hq,tt,R,_,_,_,_,_,_,Z,Z,?_⟩;exact uP HM c6 ba dg bp (λj hj=>ar.ac.block j hj) hA (by grind [D]) db ar.size Z bg.1 bg.2.1 bg.2.2.1 bg.2.2.2 cb.1 cb.2 bh.1 bh.2.1 bh.2.2.1 bh.2.2.2 (λj hj=>by rw[Do _ _ _ _ E,Do _ _ _ _ E];exact cc.1 j E)<|B0 cc.2
 all_goals
  obtain⟨ag,hx⟩:∃ag,D (dh=.error ag)/\∀V,Ar As 84 _ V λe W'=>e=Ak (.agg<|Cf ag)/\A0 V W':=⟨_,HE,cB⟩
  obtain⟨HE,cB⟩:=hx;refine Dl (S:=λn=>Kj W (Ct bs fm d l) (Cg 7 0 ⟨#[]⟩ (G ka kn kc)<|G ua un uc) n) o.drew.s B6 λm=>Jf 0 (.agg<|Cg 7 0 ⟨#[]⟩ (G ka kn kc)<|G ua un uc) Z (λn u=>yT 5 u.d Z Z) m <| Jf 1 (Ag #[Ae ⟨Aw bs⟩,C Y fm,C Y d,C Y l]) Z (λn u=>yI 4 u.h Z Z) m ?_
 next =>
  refine Cb 2 49 (C Y ac) m <| Ch 3 50 (C Y<|(ac:J)-1) Z (λn u=>Bo) m <| CH 4 λak a=>?_;go_simp;refine(cB _).mono ?_;rintro e f ⟨rfl,b6⟩;simp only[];have p:=C9<|o.drew.next b6;refine a.out _ _ p.s λ_=>?_;have ah:=p.s.set (O (U W)+2) (Cg 7 0 ⟨#[]⟩ (G ka kn kc)<|G ua un uc)<|Cr _;refine Ii 5 8 47 B6 p.b thg ah <| Cb 6 9 (C Y 0) ah <| sF 7 10 51 B6 (sx E p.a) (ah.set (O (U W)+3) (Cf ag) E) <| CK ?_;go_simp;go_wp2;refine F4 results164 (p.ai (Cg 7 0 ⟨#[]⟩ (G ka kn kc)<|G ua un uc) ag) (C Y 0) Z Z Z Z ⟨U1 (p.ai (Cg 7 0 ⟨#[]⟩ (G ka kn kc)<|G ua un uc) ag).2.2,?_⟩;exact⟨.error ag,AF HE,_,_,_,_,_,_,_,_,_,_,Z⟩
 all_goals
  refine Cb 2 28 (C Y i) m <| CH 3 λak a=>?_;go_simp;refine(cB _).mono ?_;rintro e f ⟨rfl,b6⟩;simp only[];have p:=C9<|o.drew.next b6;refine a.out _ _ p.s λ_=>?_;have ah:=p.s.set (O (U W)+2) (Cg 7 0 ⟨#[]⟩ (G ka kn kc)<|G ua un uc)<|Cr _;refine Ii 4 8 26 B6 p.b thg ah <| Cb 5 9 (C Y 0) ah <| sF 6 10 29 B6 (sx E p.a) (ah.set (O (U W)+3) (Cf ag) E) <| CK ?_;go_simp;go_wp2;refine F4 results164 (p.ai (Cg 7 0 ⟨#[]⟩ (G ka kn kc)<|G ua un uc) ag) (C Y 0) Z Z Z Z ⟨U1 (p.ai (Cg 7 0 ⟨#[]⟩ (G ka kn kc)<|G ua un uc) ag).2.2,?_⟩;exact⟨.error ag,AF HE,_,_,_,_,_,_,_,_,_,_,Z⟩
theorem fP{α:Type}{itF:α->I->A5 α}{acc:α}{R:A5 α}{f:J×J}(h:P9 bs lim itF last g p acc R)(c:GH bs lim (itF acc p)<|.error f)(i:(p:J)=lim->p<K bs->itF acc p=.error (8,(p:J))):R=.error f:=by
 have j:itF acc p=.error f:=by rcases c with h|⟨q,_,_,_,x,b⟩<;>grind
 rcases h.2 with⟨d,_,a⟩|⟨a,e,b⟩<;>grind [Qk]
theorem fQ{α:Type}(hl:Lm bs l lim){itF:α->I->A5 α}{q:I}{acc acc':α}{R:A5 α}(h:P9 bs lim itF last g p acc R)(A:GH bs lim (itF acc p)<|.ok (acc',q))(S:(p:J)=lim->p<K bs->itF acc p=.error (8,(p:J)))(z:∀x q,itF acc p=.ok (x,q)->p<q)(r:Cx bs lim q)(Q:K bs+1<=p+g)(i:p3=EG bs l (K bs+1-q) q):Cx bs lim p3/\((CN bs l p3=AQ/\R=.error (D5 bs l p3 9))\/∃c,bs[p3]?=H c/\CN bs l p3=AP/\((c.toNat=last/\R=.ok (acc',p3+1)/\Cx bs lim (p3+1))\/(¬c.toNat=last/\c.toNat=44/\Cx bs lim (p3+1)/\∃a,g=a+2/\p<p3/\FT bs lim itF last (a+1) (p3+1) acc'=R)\/(¬c.toNat=last/\¬c.toNat=44/\R=.error (D5 bs l p3 9)))):=by
 rcases A with s|⟨q',P,m,n,x,d⟩
 .have V:=z acc' q s;rcases h.2 with⟨a,e,o⟩|⟨m,n,d⟩
  .obtain⟨t,B,f⟩:=uH hl r i s o;refine⟨t,?_⟩;rcases f with f|⟨c,j,u,b⟩
   .exact AF f
   refine AG ⟨c,j,u,?_⟩;rcases b with b|⟨F,c2,L,N⟩|b
   .exact AF b
   .have:=Dk j;obtain⟨k,rfl⟩:∃k,a=k+1:=⟨a-1,E⟩
    grind
   exact AG<|AG b
  grind
 injection d with d;injection d with h5 h6;subst h6;obtain⟨v,w,y⟩:=uI hl m n;rw[v]at i;subst i;refine⟨r,AF ⟨w,?_⟩⟩;rw[y];rcases h.2 with⟨a,_,o⟩|⟨W,k3,k4⟩<;>grind [Qk]
theorem fS{a:AJ A1×AJ (Lit×AM Unit)}(b:(p:J)=lim)(hl:p<K bs):FF bs lim rd a p=.error (8,(p:J)):=by grind [FF,Jj,Dt]
def fU(r:AS (AI×AI)<|(AJ A1×AJ (Lit×AM Unit))×AH):AS (AI×AI)<|AM Unit×AH:=match r with
 |.error e=>.error e
 |.ok (es,q)=>.ok (.map es.2,q)
def uR{n:J}{s:AT}(h:FU W A (Cg kd n s kv u) V)(x:J):FU W A (Cg x n s kv u)<|AB V ⟨O (U W)+3,0,Ao⟩<|C Y x:=by have a:∀j,j≠O (U W)+3->(AB V ⟨O (U W)+3,0,Ao⟩<|C Y x).heap[j]?=V.heap[j]?:=λj b=>CY V _ _ _ BG;refine⟨(a _ E).trans h.h,(a _ E).trans h.b,(a _ E).trans h.a,?_,h.ac.trans ⟨Z,Z,Z,Bd,λj b=>a j E⟩⟩;rw[DX _ _ _ _ _ _ h.d];rfl
theorem uS(h:FU W A y V)(b:Qr V V' kv u)(d:∀g,Ax kv=H g->O (U W)+4<=g)(i:∀g,Ax u=H g->O (U W)+4<=g):FU W A y V':=by have f:=h.size;have a:∀j,j<O (U W)+4->V'.heap[j]?=V.heap[j]?:=λj c=>b.block j E (λe=>B9) λe=>B9;exact⟨(a _ E).trans h.h,(a _ E).trans h.b,(a _ E).trans h.a,(a _ E).trans h.d,h.ac.trans ⟨b.os,b.tape,b.output,b.size,λj c=>a j E⟩⟩
def uT(h:FU W A y V){z:A3}:FU W A z (AD V (O (U W)+3) z) :=
 ⟨sx E h.h,sx E h.b,sx E h.a,CR _ _ _ _ _ _ h.d,Dq h.ac E⟩
def uU(h:FU W A y V)(a:O (U W)+4<=j){z:A3}:FU W A y (AD V j z) :=
 ⟨sx E h.h,sx E h.b,sx E h.a,sx E h.d,Dq h.ac E⟩
def uV(W:X)(fm d:J){n:J}(b:n=min (x:J) 9223372036854775807)(hl:Lm bs l lim)(hi:Cx bs lim i)(hb:K bs<=200000000):Ar As 133 #[.agg<|Ct bs fm d l,C Y i,C Y n,Ah AQ] W λe a=>NU (EV bs lim x i []) e/\A0 W a:=fI b hl hi hb
def fV(W:X)(fm d:J){n:J}(b:n=min (x:J) 9223372036854775807)(hl:Lm bs l lim)(hi:Cx bs lim i)(hb:K bs<=200000000):Ar As 133 #[.agg<|Ct bs fm d l,C Y i,C Y n,Ah AP] W λe a=>NU (Ds bs lim x i [] 0) e/\A0 W a:=fI b hl hi hb
theorem fW:∀(k p:I) (a l:A1) (q:I),Cx bs lim p->EV bs lim k p a=.ok (l,q)->Cx bs lim q/\p<=q
 |0,p,a,l,q,hi,h=>by grind [EV]
 |k+1,p,a,l,q,hi,h=>by
  rw[EV]at h;rcases hc:bs[p]? with _|c
  .rw[hc]at h;cases h
  rw[hc]at h;simp only[]at h;by_cases b:(p:J)=lim
  .grind
  rw[Cl b]at h;have:=fW k _ _ l q (Eu hi hc b) h;grind
theorem XK:∀(k p:I) (a:A1) (b:I) (l:A1) (q:I),Cx bs lim p->Ds bs lim k p a b=.ok (l,q)->Cx bs lim q/\p<=q
 |0,p,a,b,l,q,hi,h=>kfF
 |k+1,p,a,b,l,q,hi,h=>by
  rw[Ds]at h;rcases hc:bs[p]? with _|c
  .rw[hc]at h;cases h
  rw[hc]at h;simp only[]at h;by_cases d:(p:J)=lim
  .grind
  rw[Cl d]at h;split at h
  .cases h
  have:=XK k _ _ _ l q (Eu hi hc d) h;grind
def Jm(k:AH)(bs:A1)(lim:AI)(W:Ap)(r:AS (AI×AI)<|AM Unit×AH)(e:Ending)(W':Ap):Prop :=
 A0 W W'/\match r with
 |.ok (d,q)=>Cx bs lim q/\∃kd n s a i j b p m,e=Ak (Af #[.agg<|Cg kd n s (Ac a i j)<|Ac b p m,Ab Al q,.agg<|Cf (0,0)])/\CV k W' (λj=>Au (Av W)<=j/\j<Au (Av W')) (.agg<|Cg kd n s (Ac a i j)<|Ac b p m) d
 |.error f=>∃kd n s a i j b p m z,e=Ak (Af #[.agg<|Cg kd n s (Ac a i j)<|Ac b p m,Ab Al z,.agg<|Cf f])
def XL(h:Jm k bs lim W r e W'):Fc k bs lim W r e W':=⟨h.1,r,AF rfl,h.2⟩
structure EW(W:Ap)(A H y:A3)(V:Ap):Prop where
 h:V.heap[Au (Av W)]?=An (Aj A 115)
 c:V.heap[Au (Av W)+1]?=An (Aj H 237)
 b:V.heap[Au (Av W)+2]?=An (Aj Cv 101)
 a:V.heap[Au (Av W)+3]?=An (Aj (Cf (0,0)) 103)
 d:V.heap[Au (Av W)+4]?=An (Aj y 101)
 ac:A0 W V
def EW.a0{H:A3}(h:EW W A H y V)(hb:A0 W V')(a:∀j,O (U W)<=j->j<O (U W)+5->V'.heap[j]?=V.heap[j]?):EW W A H y V' :=
 ⟨Ca (a _ E E) h.h,Ca (a _ E E) h.c,Ca (a _ E E) h.b,Ca (a _ E E) h.a,Ca (a _ E E) h.d,hb⟩
def EW.size{H:A3}(h:EW W A H y V):O (U W)+5<=O (U V):=Cd h.d
theorem EW.next{H:A3}(h:EW W A H y V)(hb:A0 V V'):EW W A H y V':=h.a0 (Cs h.ac<|CG hb h.ac.size) λj _ a=>Co hb j Bn
theorem EW.drew{H:A3}(h:EW W A H y V):EW W A H y V.drew:=⟨h.h,h.c,h.b,h.a,h.d,h.ac.drew⟩
theorem fX(W:X){H:A3}:EW W A H Cv<|Az (Az (Az (Az (Az W<|M A 115)<|M H 237)<|M Cv 101)<|M (Cf (0,0)) 103)<|M Cv 101:=by have f:=Cj W (o:=(M A 115));have b:=Cj (Az W<|M A 115) (o:=(M H 237));have c:=Cj (Az (Az W<|M A 115)<|M H 237) (o:=(M Cv 101));have d:=Cj (Az (Az (Az W<|M A 115)<|M H 237)<|M Cv 101) (o:=(M (Cf (0,0)) 103));have a:=Cj (Az (Az (Az (Az W<|M A 115)<|M H 237)<|M Cv 101)<|M (Cf (0,0)) 103) (o:=(M Cv 101));simp only[CL,A0]at b c d a;have e:Below _ W<|Az (Az (Az (Az (Az W<|M A 115)<|M H 237)<|M Cv 101)<|M (Cf (0,0)) 103)<|M Cv 101:=((((Cm).alloc B9 _).alloc B9 _).alloc B9 _).alloc B9 _;refine⟨?_,?_,?_,?_,a,e⟩<;>grind [Below.heap_alloc]
def EW.aq{H:A3}(h:EW W A H y V)(z:A3):EW W A H z (AD V (O (U W)+4) z) :=
 ⟨sx E h.h,sx E h.c,sx E h.b,sx E h.a,CR _ _ _ _ _ _ h.d,Dq h.ac E⟩
def EW.else{H:A3}(h:EW W A H y V)(j:I)(b:O (U W)+5<=j)(z:A3):EW W A H y (AD V j z) :=
 h.a0 (Dq h.ac E) λi _ a=>Do _ _ _ _ E
def EW.cell{H:A3}{n:J}{s:AT}(h:EW W A H (Cg kd n s kx ux) V)(b:Aq):EW W A H (Cg kd n s b ux) (AB V ⟨O (U W)+4,3,Ao⟩ b)/\EW W A H (Cg kd n s kx b) (AB V ⟨O (U W)+4,4,Ao⟩ b):=by
 have a:∀i j,j≠O (U W)+4->(AB V ⟨_,i,Ao⟩ b).heap[j]?=V.heap[j]?:=λi j c=>CY V _ _ _ BO;have d:∀i,Below _ W<|AB V _ b:=λi=>Cs h.ac ⟨Z,Z,Z,Bd,λj c=>a i j E⟩;refine⟨⟨Ca (a _ _ E) h.h,Ca (a _ _ E) h.c,Ca (a _ _ E) h.b,Ca (a _ _ E) h.a,?_,d 3⟩,⟨Ca (a _ _ E) h.h,Ca (a _ _ E) h.c,Ca (a _ _ E) h.b,Ca (a _ _ E) h.a,?_,d 4⟩⟩
 .rw[DX _ _ _ _ _ _ h.d];rfl
 rw[DX _ _ _ _ _ _ h.d];rfl
theorem EW.a3{H:A3}{x:Option I}(h:EW W A H y V)(hx:∀g,x=An g->O (U W)+5<=g)(a:(Az V o).grownBy w5 x):EW W A H y w5:=by have f:=h.size;have d:O (U V)+1<=O (U w5):=kev;have c:∀j,j<O (U W)+5->w5.heap[j]?=V.heap[j]?:=λj b=>M8 a E λe=>B9;exact h.a0 (Cs h.ac ⟨a.os,a.tape,a.output,E,λj b=>c j E⟩) λj _ b=>c j b
def EW.ai{H:A3}(h:EW W A H y V)(z:A3)(x:J×J):(AD (AD V (O (U W)+2) z) (O (U W)+3)<|Cf x).heap[O (U W)+2]?=An (M z 101)/\(AD (AD V (O (U W)+2) z) (O (U W)+3)<|Cf x).heap[O (U W)+3]?=An (M (Cf x) 103)/\A0 W (AD (AD V (O (U W)+2) z) (O (U W)+3)<|Cf x):=by
 refine⟨?_,?_,Dq (Dq h.ac E) E⟩
 .rw[Do _ _ _ _ E];exact CR _ _ _ _ _ _ h.b
 exact CR _ _ _ _ _ _<|sx E h.a
theorem Lv{a f:A3}:A0 w2 (((Az (Az w2 o1) o2).setRow (O<|U w2) a).setRow (O (U w2)+1) f) :=
 Dq (Dq ((Cm).alloc Bx _)<|Cr _) E
theorem Gs(w2:X):(Az (Az w2 o1) o2).heap[O<|U w2]?=H o1/\(Az (Az w2 o1) o2).heap[O (U w2)+1]?=H o2:=by grind [Cj,World.size_alloc,Below.heap_alloc]
def MQ{w:X}{a b f:A3}:(((Az (Az w o)<|M a t).setRow (O<|U w) b).setRow (O (U w)+1) f).heap[O (U w)+1]?=H (M f t):=CR _ _ _ _ _ _<|Ca (Do _ _ _ _ E) (Gs w).2
def RU{w:X}{a b f:A3}:(((Az (Az w<|M a t) o).setRow (O<|U w) b).setRow (O (U w)+1) f).heap[O<|U w]?=H (M b t):=Ca (Do _ _ _ _ E)<|CR _ _ _ _ _ _ (Gs w).1
def fY{A:Act}{w:X}{a b x:A3}{s:AN}(h:∀V,D (A0 w V)->D (A7 V (O<|U w) x s)->D (A7 V (O (U w)+1) y t)->wpList P ops Q rest A V):wpList P ops Q rest A<|((Az (Az w<|M a s)<|M b t).setRow (O<|U w) x).setRow (O (U w)+1) y:=h _ (Lv) RU MQ
structure IR(k:AH)(V:Ap)(b:AH)(kv u:Aq)(kl:AJ A1)(ds:AJ (AM Unit)):Prop where
 q:V.ownsRow b 9 1 kv (At kl) (kl.map CX)
 c:IQ k V b u (λj=>An j=Ax kv) ds
 e:∀g,Ax kv=An g->¬(Ax u)=An g
def uW:IR k V b Cq Cq [] []:=⟨Fi _ _ _ _,XA,λg h=>Bs⟩
theorem IR.next(h:IR k V b kv u kl ds)(c:O (U V)<=O (U V'))(a:∀j,b<=j->j<O (U V)->V'.heap[j]?=V.heap[j]?):IR k V' b kv u kl ds :=
 ⟨TQ h.q a,h.c.next c a,h.e⟩
theorem IR.map(h:IR k V b kv u kl ds)(c:K kl=K ds)(v:B<=b):CV (k+1) V (λj=>B<=j/\j<O (U V)) (.agg<|Cg 7 0 ⟨#[]⟩ kv u)<|.map<|FH kl ds:=by
 obtain⟨s,t,p⟩:=h.c;have hF:∀g,b<=g->g<O (U V)->B<=g/\g<O (U V):=λg w r=>⟨E,r⟩
 refine⟨kv,u,s,Z,?_,?_,λi key d q=>?_⟩
 .rw[TZ c,XJ c,<-c];exact P5 h.q hF
 .grind [TZ,P5]
 obtain⟨f,l,m⟩:=fL q;obtain⟨a,n,o⟩:=p i d f;exact⟨l,a,m,n,o.same (λj e=>⟨AY e.1,e.2.1⟩) λ_ _=>rfl⟩
theorem IR.key{t:A1}(h:IR k V b kv u kl ds)(y:w5.ownsRow b 9 1 v' (K kl+1)<|kl.map CX++[CX t])(n:(Az V o).grownBy w5<|Ax kv)(f:Ax v'=Ax kv\/Ax v'=H (O<|U<|Az V o)):IR k w5 b v' u (kl++[t]) ds:=by
 obtain⟨w,p,q⟩:=h.c;have x:O (U V)+1<=O (U w5):=BZ;have v:∀j,j<O (U V)->H j≠Ax kv->¬H j=Ax v':=λj c s e=>by
  rcases f with f|f
  .exact s<|Ca e f
  rw[f]at e;injection e with e;simp at e;omega
 refine⟨B9,⟨w,NZ p λj e _ c=>M8 n c λm=>h.e j m.symm e,λi d r=>?_⟩,λg l m=>?_⟩
 .obtain⟨a,l,m⟩:=q i d r;exact⟨a,l,m.same (λj c=>⟨c.1,AY c.2.1,c.2.2.1,v j c.2.1 c.2.2.2⟩) λj c=>M8 n c.2.1 c.2.2.2⟩
 rcases f with f|f
 .exact h.e g (Ca f.symm l) m
 have:=En p m;rw[f]at l;injection l with l;simp at l;omega
theorem IR.kid{L:I}{d:A2}{a:A3}(h:IR k V b kv u kl ds)(p:V.ownsRow b 101 5 u (K ds) xs)(q:∀(i:I) (d:A2),ds[i]?=H d->∃a,Ht xs i a/\CV k V (λj=>b<=j/\j<O (U V)/\H j≠Ax u/\¬H j=Ax kv) (.agg a) d)(t:CV k V (λj=>L<=j/\j<O (U V)) (.agg a) d)(r:∀g,Ax u=H g->g<L)(w:∀g,Ax kv=H g->g<L)(hb:b<=L)(s:a.size=5)(v:w5.ownsRow b 101 5 v' (K ds+1)<|xs++a.toList)(m:(Az V o).grownBy w5<|Ax u)(f:Ax v'=Ax u\/Ax v'=H (O<|U<|Az V o)):IR k w5 b kv v' kl<|ds++[d]:=by
 refine⟨NZ h.q λj e _ n=>M8 m n λc=>h.e j e c.symm,IQ.push p q t r hb (λj n e=>B9) s v m f,λg l c=>?_⟩;rcases f with f|f
 .exact h.e g l<|Ca f.symm c
 have:=En h.q l;rw[f]at c;injection c with c;simp at c;omega
def FJ(m:AK):AI:=bif m then 7 else 6
def U2(m:AK)(kl:AJ A1)(ds:AJ<|AM Unit):A2:=bif m then .map (FH kl ds)else .agg ds
def O0(m:AK):AH:=bif m then 125 else 93
def RV(m:AK)(bs:A1)(lim:AI)(rd:AH->AS (AI×AI) (AM Unit×AH))(p:AH):AS (AI×AI)<|AM Unit×AH:=bif m then fU (Gn bs lim (FF bs lim rd) 125 p ([],[]))else XH (Gn bs lim (G6 rd) 93 p [])
def O1(m:AK)(bs:A1)(lim:AI)(rd:AH->AS (AI×AI) (AM Unit×AH))(g p:AH)(kl:AJ A1)(ds:AJ<|AM Unit)(R:AS (AI×AI)<|AM Unit×AH):Prop :=
 bif m then∃R',P9 bs lim (FF bs lim rd) 125 g p (kl.reverse,FH kl ds) R'/\fU R'=R else∃R',P9 bs lim (G6 rd) 93 g p ds R'/\XH R'=R
def uX(hl:Lm bs l lim)(hi:Cx bs lim p)(h:p1=EG bs l (K bs+1-p) p)(i:RV m bs lim rd p=R):Cx bs lim p1/\((∃c,bs[p1]?=H c/\CN bs l p1=AP/\c.toNat=O0 m/\R=.ok (U2 m [] [],p1+1)/\Cx bs lim (p1+1))\/((CN bs l p1=AQ\/∃c,bs[p1]?=H c/\CN bs l p1=AP/\¬c.toNat=O0 m)/\O1 m bs lim rd (K bs+1-p1) p1 [] [] R)):=by
 subst i;cases m
 .obtain⟨d,⟨c,a,b,e,f,g⟩|⟨a,b⟩⟩:=fK (itF:=G6 rd) (last:=93) (acc:=[]) hl hi h rfl
  .exact⟨d,AF ⟨c,a,b,e,by simp only[RV,cond,f];rfl,g⟩⟩
  exact⟨d,AG ⟨a,_,b,Z⟩⟩
 obtain⟨d,⟨c,a,b,e,f,g⟩|⟨a,b⟩⟩:=fK (itF:=FF bs lim rd) (last:=125) (acc:=([],[])) hl hi h rfl
 .exact⟨d,AF ⟨c,a,b,e,by simp only[RV,cond,f];rfl,g⟩⟩
 exact⟨d,AG ⟨a,_,b,Z⟩⟩
def Pb(m:AK)(bs:A1)(lim:AI)(rd:AH->AS (AI×AI) (AM Unit×AH))(p:AH)(kl:AJ A1)(ds:AJ<|AM Unit)(r:AS (AI×AI)<|(AJ A1×AJ (AM Unit))×AH):Prop :=
 bif m then At kl=At ds/\∃r',GH bs lim (FF bs lim rd (kl.reverse,FH kl ds) p) r'/\match r with
  |.error e=>r'=.error e
  |.ok (x,q)=>∃lk dd,r'=.ok ((lk::kl.reverse,FH kl ds++[(.string lk,dd)]),q)/\x=(kl++[lk],ds++[dd])
 else∃r',GH bs lim (rd p) r'/\match r with
  |.error e=>r'=.error e
  |.ok (x,q)=>∃dd,r'=.ok (dd,q)/\x=(kl,ds++[dd])
theorem fZ(h:GH bs lim (rd p) r):GH bs lim (G6 rd ds p)<|match r with|.error e=>.error e|.ok (d,q)=>.ok (ds++[d],q):=by grind [GH,G6]
def gc(c:(p:J)=lim->p<n->rd p=.error (8,(p:J)))(a:(p:J)=lim)(b:p<n):G6 rd ds p=.error (8,(p:J)):=by simp only[G6,c a b]
def gd{f:J×J}(h:O1 m bs lim rd g p kl ds R)(hi:Pb m bs lim rd p kl ds<|.error f)(e:(p:J)=lim->p<K bs->rd p=.error (8,(p:J)))(b:∀p,DI<|rd p):R=.error f/\(f.1==0)=AQ:=by
 cases m
 .obtain⟨c,h,rfl⟩:=h;obtain⟨i,a,rfl⟩:=hi;have:=dY a (b p) f.1 f.2 Z;exact⟨by rw[fP h (fZ a)<|gc e];rfl,by simpa using this⟩
 obtain⟨c,h,rfl⟩:=h;obtain⟨_,i,a,rfl⟩:=hi;have:=dY a (dV b _ p) f.1 f.2 Z;exact⟨by rw[fP h a λd a=>fS d a];rfl,by simpa using this⟩
def ge(hl:Lm bs l lim)(hi:Cx bs lim p):p<=EG bs l g p:=by
 rcases MH hl g p hi with⟨c,_,a,_,b,_⟩|⟨c,_,a,d,_⟩
 .rw[a];exact b
 rw[a];have:=hi.2;omega
theorem uY{q p4:I}(hl:Lm bs l lim)(h:O1 m bs lim rd g p kl ds R)(hi:Pb m bs lim rd p kl ds<|.ok ((kl',ds'),q))(B:(p:J)=lim->p<K bs->rd p=.error (8,(p:J)))(A:∀p x q,rd p=.ok (x,q)->p<q)(v:Cx bs lim q)(t:K bs+1<=p+g)(u:p3=EG bs l (K bs+1-q) q)(L:p4=EG bs l (K bs+1-(p3+1)) (p3+1)):Cx bs lim p3/\((CN bs l p3=AQ/\R=.error (D5 bs l p3 9))\/∃c,bs[p3]?=H c/\CN bs l p3=AP/\((c.toNat=O0 m/\R=.ok (U2 m kl' ds',p3+1)/\Cx bs lim (p3+1))\/(¬c.toNat=O0 m/\c.toNat=44/\Cx bs lim (p3+1)/\∃j,g=j+2/\p<p3/\p3+1<=p4/\O1 m bs lim rd (j+1) p4 kl' ds' R)\/(¬c.toNat=O0 m/\¬c.toNat=44/\R=.error (D5 bs l p3 9)))):=by
 subst L;cases m
 .obtain⟨w,h,rfl⟩:=h;obtain⟨N,k,y,rfl,e⟩:=hi;cases e;obtain⟨r,a⟩:=fQ hl h (fZ k) (gc B) (λx q e=>by unfold G6 at e;grind) v t u;refine⟨r,?_⟩;rcases a with⟨a,rfl⟩|⟨c,a,f,⟨b,rfl,d⟩|⟨b,d,i,j,s,n,o⟩|⟨b,d,rfl⟩⟩
  .exact AF ⟨a,Z⟩
  .exact AG ⟨c,a,f,AF ⟨b,Z,d⟩⟩
  .exact AG ⟨c,a,f,AG<|AF ⟨b,d,i,j,s,n,ge hl i,_,eW hl i o,Z⟩⟩
  exact AG ⟨c,a,f,AG<|AG ⟨b,d,Z⟩⟩
 obtain⟨w,h,rfl⟩:=h;obtain⟨F,N,k,P,y,rfl,e⟩:=hi;cases e;obtain⟨r,a⟩:=fQ hl h k (λz k=>fS z k) (λx q h=>WZ A _ _ _ _ h) v t u;refine⟨r,?_⟩;rw[<-XI F]at a;rcases a with⟨a,rfl⟩|⟨c,a,f,⟨b,rfl,d⟩|⟨b,d,i,j,s,n,o⟩|⟨b,d,rfl⟩⟩
 .exact AF ⟨a,Z⟩
 .exact AG ⟨c,a,f,AF ⟨b,Z,d⟩⟩
 .exact AG ⟨c,a,f,AG<|AF ⟨b,d,i,j,s,n,ge hl i,_,SO▸eW hl i o,Z⟩⟩
 exact AG ⟨c,a,f,AG<|AG ⟨b,d,Z⟩⟩
def KM(m:AK)(k:AH)(V:Ap)(b:AH)(kv u:Aq)(kl:AJ A1)(ds:AJ<|AM Unit):Prop:=bif m then G7 k V b kv u (λ_=>False) kl ds else(kl=[]/\kv=Cq)/\IQ k V b u (λ_=>False) ds
theorem KM.next(h:KM m k V b kv u kl ds)(d:O (U V)<=O (U V'))(c:∀j,b<=j->j<O (U V)->V'.heap[j]?=V.heap[j]?):KM m k V' b kv u kl ds:=by
 cases m
 .exact⟨h.1,IQ.next h.2 d c⟩
 exact G7.next h d λj a b _=>c j a b
def KM.ai(h:KM m k V b kv u kl ds)(a:B<=b):CV (k+1) V (λj=>B<=j/\j<O (U V)) (.agg<|Cg (FJ m) 0 ⟨#[]⟩ kv u)<|U2 m kl ds:=by
 cases m
 .obtain⟨⟨rfl,rfl⟩,h⟩:=h;exact IQ.ac h a
 exact G7.map h a
def uZ{n:J}{s:AT}(h:FU W A (Cg kd n s kv u) V)(a:Aq):FU W A (Cg kd n s kv a)<|AB V ⟨O (U W)+1+1+1,4,Ao⟩ a:=uN h
def vb{q:I}(h:Pb m bs lim rd p kl ds<|.ok ((kl',ds'),q)):K ds'=K ds+1:=by
 cases m
 .obtain⟨_,_,_,_,h⟩:=h;cases h;simp
 obtain⟨_,_,_,_,_,_,h⟩:=h;cases h;simp
def vd(h:O1 m bs lim rd g p kl ds R):Cx bs lim p:=by cases m<;>(obtain⟨_,h,_⟩:=h;exact h.1)
def gm(c:AU)(L:J)(h:L=n):(c.toNat=n->((c.toNat:J)==L)=AP/\((c.toNat:J) != L)=AQ)/\(¬c.toNat=n->((c.toNat:J)==L)=AQ/\((c.toNat:J) != L)=AP):=by subst h;simp;omega
def XM:KM m k V b Cq Cq [] []:=by
 cases m
 .exact⟨⟨Z,Z⟩,XA⟩
 exact uJ
def ve(t:m=AQ)(h:Fc k bs lim W (rd p) e W'):∃c n s a i j b d x z F,e=Ak (Af #[.agg<|Cg c n s (G a i j)<|G b d x,C Y z,.agg<|Cf F])/\(Pb m bs lim rd p kl ds (.error F)\/F=(0,0)/\∃(g:A2) (q:I),z=q/\Cx bs lim q/\CV k W' (λj=>O (U W)<=j/\j<O (U W')) (.agg<|Cg c n s (G a i j)<|G b d x) g/\Pb m bs lim rd p kl ds (.ok ((kl,ds++[g]),q))):=by
 subst t;obtain⟨_,u,l,h⟩:=h;obtain f|y:=u
 .obtain⟨c,n,s,a,i,j,b,d,x,z,h⟩:=h;exact⟨c,n,s,a,i,j,b,d,x,z,f,h,AF ⟨_,l,Z⟩⟩
 obtain⟨o,c,n,s,a,i,j,b,d,x,h,r⟩:=h;exact⟨c,n,s,a,i,j,b,d,x,y.2,(0,0),h,AG ⟨Z,y.1,y.2,Z,o,r,_,l,_,Z,Z⟩⟩
def vf(B:m=AP)(h:fN k bs lim W b0 kv u ex kl ds (FF bs lim rd (kl.reverse,FH kl ds) p) e W')(o:K kl=K ds):∃d n s a i j b c x z F,e=Ak (Af #[.agg<|Cg d n s (G a i j)<|G b c x,C Y z,.agg<|Cf F])/\(Pb m bs lim rd p kl ds (.error F)\/F=(0,0)/\(d=7/\n=0/\s=⟨#[]⟩)/\∃r g,∃q:I,z=q/\Cx bs lim q/\G7 k W' b0 (G a i j) (G b c x) ex r g/\Pb m bs lim rd p kl ds (.ok ((r,g),q))):=by
 subst B;obtain⟨_,N,l,h⟩:=h;obtain f|y:=N
 .obtain⟨d,n,s,a,i,j,b,c,x,z,h⟩:=h;exact⟨d,n,s,a,i,j,b,c,x,z,f,h,AF ⟨o,_,l,Z⟩⟩
 obtain⟨v,L,t,a,i,j,b,c,x,w,h,A⟩:=h;exact⟨7,0,⟨#[]⟩,a,i,j,b,c,x,y.2,(0,0),h,AG ⟨Z,⟨Z,Z,Z⟩,_,_,y.2,Z,v,A,o,_,l,L,t,by rw[<-w],Z⟩⟩
theorem gn(k:I)(W:X)(dp:J)(hc:bs[i]?=H c)(hv:c.toNat=bif m then 123 else 91)(hp:¬(i:J)=lim)(hl:Lm bs l lim)(hi:Cx bs lim i)(hb:K bs<=281474976710656)(cl:lim<=200000000)(c7:0<=dp)(dm:dp<d)(dn:d<=100000)(cg:∀p,DI<|rd p)(cm:∀p:I,(p:J)=lim->p<K bs->rd p=.error (8,(p:J)))(ci:∀p dl ag,rd p=.ok (dl,ag)->p<ag)(cJ:∀V (p:I),Cx bs lim p->Ar As 90 #[.agg<|Ct bs fm d l,C Y p,C Y<|dp+1] V (Fc k bs lim V<|rd p)):Ar As 129 #[.agg<|Ct bs fm d l,C Y i,C Y dp] W<|Fc (k+1) bs lim W<|RV m bs lim rd<|i+1:=by
 obtain⟨ti,dh,de,df,dg⟩:=DL Tryz.infoThR;obtain⟨a3,HR⟩:=CC<|RV m bs lim rd<|i+1;rw[AE HR];have dr:=Dk hc;have dt:=Et (bs:=bs) (k:=i) (c:=c) hc;have dk:((c.toNat:J)==123)=m:=by rw[hv];cases m<;>rfl
 have cj:=Eu hi hc hp;have HL:=C9 hl;have cH:=NK bs fm d l;have cB:=OW bs fm d l;have cS:=λV p hp=>Tx V (bs:=bs) fm d l (i:=p) hb hp;have bx:D (∀V (p:I),Cx bs lim p->Ar As 90 #[Ag #[Ae ⟨Aw bs⟩,C Y fm,C Y d,C Y l],C Y p,C Y<|dp+1] V (Fc k bs lim V<|rd p)):=cJ;have bv:=C9 cg;have ay:=C9 cm;have cr:=C9 ci;have a4:=λV=>cS V (i+1) E;obtain⟨A,bp⟩:=IA<|EG bs l (K bs+1-(i+1))<|i+1;obtain⟨bq,bu⟩:=uX (m:=m) hl cj bp HR;rw[<-bp]at a4;have dx:=bq.1;have bh:=λV=>cH V A;have dq:AR (d<=dp)=AQ:=B7;have bu:(CN bs l A=AQ/\D (O1 m bs lim rd (K bs+1-A) A [] [] a3))\/∃B,bs[A]?=H B/\CN bs l A=AP/\(((B.toNat:J)==bif m then 125 else 93)=AQ/\D (O1 m bs lim rd (K bs+1-A) A [] [] a3)\/((B.toNat:J)==bif m then 125 else 93)=AP/\D (a3=.ok (U2 m [] [],A+1)/\Cx bs lim (A+1))):=by unfold D;cases m<;>simp only[O0,cond]at bu ⊢<;>grind
 have cs:=C9 bq;clear hc hv hp hl hi cj cJ ci cg cm bp HR bq;rcases bu with⟨hh,N⟩|⟨B,af,hh,h⟩
 case' inr=>have dv:=λV=>Et (bs:=bs) (k:=A) (c:=B) af V;have d2:=Dk af;clear af;rcases h with⟨ar,N⟩|⟨ar,a0⟩
 all_goals
  rw[hh]at bh;clear hh;rcases Bool.eq_false_or_eq_true m with P|P
  case' inl=>have bm:FJ m=7:=kfO
  case' inl=>have b5:=C9 P;have a2:=C9 (λc=>gm c 125<|show(125:J)=O0 m by rw[P];rfl)
  case' inr=>have bm:FJ m=6:=kfO
  case' inr=>have bd:=C9 P;have a2:=C9 (λc=>gm c 93<|show(93:J)=O0 m by rw[P];rfl)
 all_goals
  rw[P]at dk
  try(simp only[P,cond]at ar)
  have am:=C9 bm;clear P bm;unfold Ct;go_enter func129,ntmps129
  go_wp2_with(first
   |(go_at_call 83;(first|refine MI (a4 _) w.next ?_|refine MI (a4 _) (uR w 7).next ?_);clear a4 n r c2 u k0 f0;intro w2 c6 Q;obtain⟨n,r,c2,u⟩:=Eb Q.h)
   |(go_at_call 116;refine MI (bh _) Q.next ?_;clear bh n r c2 u;intro w3 ak a;rw[<-AE am]at a;obtain⟨n,r,c2,u⟩:=Eb a.h)
   |((with_reducible refine zT 9 21 rfl rfl (O (U W)+3) (Cg 6 0 ⟨#[]⟩ Cq Cq) ?_ ?_);exact⟨Z,Z,uF W,thg⟩;refine aG (uE W<|Cg 6 0 ⟨#[]⟩ Cq Cq) ?_;intro V0 w;obtain⟨n,r,c2,u⟩:=Eb w.h;have k0:A6 V0 (O (U W)+1+1+1) 0<|C Y 6:=Cc w.d 0;have f0:=Dy V0 (O (U W)+3) 0 _ _ w.d)
   |((with_reducible refine CO rfl 101 (.tmp 9) rfl (O (U W)+3) ?hx 101 (Cg (FJ m) 0 ⟨#[]⟩ Cq Cq) (0,0) _ ?hg underlying101 rfl ?hi ?_);(case hx=>exact rfl);(case hg=>exact a.d);(case hi=>exact NL))
   |((with_reducible refine zT 6 43 rfl rfl (O (U W)+1) (Cg (FJ m) 0 ⟨#[]⟩ Cq Cq) ?_ ?_);exact⟨Z,Z,a.b,thg⟩)
   |((with_reducible refine zF 8 46 rfl rfl (O (U W)+2) (0,0) ?_ ?_);exact⟨Z,Z,Gl a.ai CT⟩))
 all_goals try
  have hr:=AE a0;refine F4 results129 (EO a.ai CT _ (0,0)) (C Y<|(A:J)+1) Z Z Z Z ⟨(EO a.ai CT _ (0,0)).2.2,?_⟩;refine⟨_,AF hr.1,hr.2,_,_,_,_,_,_,_,_,_,Z,?_⟩;exact(XM (m:=m) (k:=k) (b:=O<|U W)).ai<|Cr _
 all_goals
  go_loopg[1] (K bs+1-A) (λg z wr=>∃(p:I) (kl:AJ A1) (ds:AJ<|AM Unit) (ka:A4) (kn kc:I) (ua:A4) (un uc:I),z=C Y p/\D (K bs+1<=p+g)/\D (O1 m bs lim rd g p kl ds a3)/\D (K ds<=p)/\D (Cx bs lim p)/\D (FU W (Ct bs fm d l) (Cg (FJ m) 0 ⟨#[]⟩ (G ka kn kc)<|G ua un uc) wr)/\D (KM m k wr (O (U W)+4) (G ka kn kc) (G ua un uc) kl ds))
  exact⟨A,[],[],Ao,0,0,Ao,0,0,Z,Bp,N,Ex _,cs,a,XM⟩;clear N w Q a c6 ak n r c2 u;obtain⟨p,kl,ds,ka,kn,kc,ua,un,uc,rfl,hg,N,a7,HI,w,ai⟩:=hrel;have d1:=Int.le_trans HI.2 cl;have dw:=HI.1;have d6:=w.size;rw[AE am]at w;obtain⟨n,r,c2,u⟩:=Eb w.h;have k0:A6 wr (O (U W)+1+1+1) 0<|C Y<|FJ m:=AE am▸Cc w.d 0;have k4:A6 wr (O (U W)+1+1+1) 4<|G ua un uc:=Cc w.d 4;have n0:O (U W)+1+1+1<O (U wr):=E;have n2:O (U W)+3<O (U wr):=E;have n1:O (U W)<O (U wr):=E;rw[AE am]at k0
  go_wp2_with(first
   |((with_reducible refine CO rfl 101 (.tmp 9) rfl (O (U W)+3) ?hx 101 (#[C Y 7,C Y 0,Ae ⟨#[]⟩,G ka kn kc,G ua un uc]) (0,0) _ ?hg underlying101 rfl ?hi ?_);(case hx=>exact rfl);(case hg=>exact(CB _ _ _ E).trans w.d);(case hi=>exact KG)))
  clear n r c2 u k0 k4 n0 n1 n2
  try
   have ai:KM AQ k wr (O (U W)+4) (G ka kn kc) (G ua un uc) kl ds:=AE bd▸AE ai;refine(bx _ p HI).mono ?_;rintro e w2 R;obtain⟨kk,nn,s,f,q,j1,x,q1,m1,z,F,rfl,y⟩:=ve bd (kl:=kl) (ds:=ds) R;have d5:O (U wr)+2<=O (U w2):=by have:=R.1.size;simp only[CL,A0]at this;omega
   have ak:Below (O (U wr)+2) (Az (Az wr<|M (Cf (0,0)) 103)<|M Cv 101) w2:=by have h:=R.1;simp only[CL,A0]at h;exact h
   have HV:=C9 λcy c5=>uG (wr:=wr) (w2:=w2) cy c5 ak;have HK:D<|A7 w2 (O (U wr)+1) Cv 101:=(ak.block _ E).trans (by have:=Cj (Az wr<|M (Cf (0,0)) 103) (o:=(M Cv 101));simpa only[CL]using this);have HF:=C9<|(ak.block _ E).trans<|(CB _ _ _ Ba).trans<|Cj _;have bf:D (∀g,Ax (AX ua un uc)=H g->g<O (U wr)):=by obtain⟨xs,ho,_⟩   := ai.2;exact λg hg=>En ho hg
   rcases y with y|⟨hF,dd,ag,rfl,aq,hA,y⟩
   case' inl=>obtain⟨hE,a9⟩:=gd N y (ay p) bv;have HE:=C9 hE;clear hE y
   case' inr =>
    have a9:(F.1==0)=AP:=kfH;have ax:=C9 y;have az:=C9 aq;have HA:D<|CV k w2 (λj=>O (U wr)+2<=j/\j<O (U w2)) (Ag #[C Y kk,C Y nn,.string s,G f q j1,G x q1 m1]) dd:=hA.same (λj v=>⟨by have:=v.1;simp only[CL,A0]at this;omega,v.2⟩) λ_ _=>rfl;clear hA aq y hF
   all_goals
    clear R ak;simp only[]
    go_wp2_with(first
     |((with_reducible refine zT 12 65 rfl rfl (O (U wr)+1) (Cg kk nn s (G f q j1)<|G x q1 m1) ?_ ?_);exact⟨Z,Z,HK,thg⟩)
     |((with_reducible refine zF 11 67 rfl rfl (O<|U wr) F ?_ ?_);exact⟨Z,Z,sx E HF⟩;refine FA ?_;intro V2 ah;have Q:=C9<|ah▸w.next (HV _ _);have ba:D (O (U V2)=O (U w2)/\∀j,O (U wr)+2<=j->V2.heap[j]?=w2.heap[j]?):=ah▸⟨Ba,λj v=>BP⟩;have b3:=C9<|ah▸IQ.next ai.2 (HV _ _).size λj _ v=>(HV _ _).block j v;have b2:D<|A7 V2 (O (U wr)+1) #[C Y kk,C Y nn,.string s,G f q j1,G x q1 m1] 101:=ah▸sx E (CR _ _ _ _ _ _ HK);have av:=C9<|ah▸CR _ _ _ _ _ _ (sx E HF);clear ah;obtain⟨xs,ho,ch⟩:=AE b3;have HO:=C9 ho;have bw:=C9 ch;clear ho ch b3;obtain⟨n,r,c2,u⟩:=Eb Q.h;have k4:A6 V2 (O (U W)+1+1+1) 4<|G ua un uc:=Cc Q.d 4)
     |((with_reducible refine CO rfl 101 (.tmp 12) rfl (O (U wr)+1) ?hx 101 (#[C Y kk,C Y nn,.string s,G f q j1,G x q1 m1]) (0,0) _ ?hg underlying101 rfl ?hi ?_);(case hx=>exact rfl);(case hg=>exact b2);(case hi=>exact KG))
     |(at_builtin;(refine JG Z (t:=99) Z (base:=(O (U W)+4)) (e:=101) (i:=ti) (z:=(.agg Cv)) (size:=5) (bytes:=80) underlying99 dh de df dg Z B8 Z (HO.alloc _) (ad:=⟨O<|U V2,0,Ao⟩) 1 1 (news:=[C Y kk,C Y nn,.string s,G f q j1,G x q1 m1]) Z Z (EU) (U0) B8 (B4<|AE a7) (AY<|AE a7) (B0 Q.size) ?_);intro v' w5 bo a8 co;obtain⟨g5,ao,rfl⟩:=ownsRow_succ bo;have an:=C9<|uM Q HO a8;have bc:=C9<|(a8.block _ (B1<|Cd av) λe=>AY<|bf.out _ e.symm).trans<|(CB _ _ _<|Cd av).trans av;have b8:=C9 bo;have b0:=C9 a8;have ca:=C9 co;clear bo a8 co n r c2 u k4;have k4:A6 w5 (O (U W)+1+1+1) 4<|G ua un uc:=Cc an.d 4;have f4:=Dy w5 (O (U W)+3) 4 _ _ an.d;have u0:A6 w5 (O<|U wr) 0<|C Y F.1:=Cc bc 0;obtain⟨n,r,c2,u⟩:=Eb an.h))
    have aa:=C9<|uZ an<|G (Aa g5) (K ds+1) ao;have aw:=C9<|(CY w5 ⟨O (U W)+1+1+1,4,Ao⟩ (O<|U wr) (G (Aa g5) (K ds+1) ao) B7).trans bc
    try
     have be:D<|KM m k (AB w5 ⟨O (U W)+1+1+1,4,Ao⟩<|G (Aa g5) (K ds+1) ao) (O (U W)+4) (G ka kn kc) (G (Aa g5) (K ds+1) ao) kl<|ds++[dd]:=KM.next (AE bd▸(⟨ai.1,IQ.push (L:=O (U wr)+2) HO bw (HA.same (λj v=>⟨v.1,by rw[ba.1];exact v.2⟩) λj v=>ba.2 j v.1) (λg hg=>AY<|bf.out g hg) E (λ_ _ h=>h) Z b8 b0 ca⟩:KM AQ k w5 _ _ _ _ _)) Bd λj c9 db=>CY w5 _ _ _ B7
    generalize AB w5 ⟨O (U W)+1+1+1,4,Ao⟩ (G (Aa g5) (K ds+1) ao)=V6 at *;clear an bc k4 f4 HO bw Q b2 av HK HF HV w b8 b0 ca ba bf n r c2 u u0
  try
   have bn:=AE b5;have ac:G7 k wr (O (U W)+4) (G ka kn kc) (G ua un uc) (λ_=>False) kl ds:=by have:=AE ai;rw[bn]at this;exact this
   have b7:=(ac.ac (ex':=λj=>j=O (U wr)) λj h=>AG<|OG h.symm).next (V':=Az wr<|M (Cf (0,0)) 103) Ba λj _ v _=>CB _ _ _ v
   refine(uQ (k:=k) (bs:=bs) (fm:=fm) (d:=d) (l:=l) (lim:=lim) (i:=p) (dp:=dp) (b:=(O (U W)+4)) (ka:=ka) (ua:=ua) (kn:=kn) (kc:=kc) (un:=un) (uc:=uc) (ex:=(λj=>j=O (U wr))) (kl:=kl) (ds:=ds) HL HI hb cl b7 (B3 (AE a7) ac.len) (rd:=rd) ay B7 (λj h=>by subst h;simp) c7 E bx).mono ?_;rintro e w2 R;obtain⟨kk,nn,s,f,q,j1,x,q1,m1,z,F,rfl,y⟩:=vf bn R ac.len;have b4:=λg e=>OK (DK ac.q (g:=g) e)<|En ac.q e;have b9:∀g,Ax (AX ua un uc)=H g->O (U W)+4<=g/\g<O (U wr):=by obtain⟨xs,ho,_⟩:=ac.c;exact λg e=>⟨DK ho e,En ho e⟩
   have bb:=C9<|uS (w.next Cm) R.1 (λg e=>(b4 g e).1) λg e=>(b9 g e).1;have HF:=C9<|(R.1.block _ Ba (λe=>B9) λe=>B9).trans<|Cj _;rcases y with y|⟨hF,ck,di,c4,ag,rfl,aq,hM,y⟩
   case' inl=>obtain⟨hE,a9⟩:=gd N y (ay p) bv;have HE:=C9 hE;clear hE y
   case' inr =>
    have a9:(F.1==0)=AP:=kfH;have ax:=C9 y;have az:=C9 aq;have HM:=C9 hM;have cu:=C9 ck;clear hM aq y hF ck
   all_goals
    clear R b4 b9 b7 ac bn;simp only[]
    go_wp2_with(first
     |((with_reducible refine D8 rfl 101 (.tmp 9) (.tmp 56) rfl (O (U W)+3) (Cg kk nn s (G f q j1)<|G x q1 m1) ?hx ?hy 101 (Cg 7 0 ⟨#[]⟩ (G ka kn kc)<|G ua un uc) ?hg ?hi ?hs ?h1 ?_);(case hx=>exact rfl);(case hy=>exact rfl);(case hg=>exact bb.d);(case hi=>exact NL);(case hs=>exact rfl);(case h1=>grind [da]))
     |((with_reducible refine zF 11 58 rfl rfl (O<|U wr) F ?_ ?_);exact⟨Z,Z,sx E HF⟩;refine FA ?_;intro V6 au;have aa:=C9<|au▸uU (uT bb) E;have aw:=C9<|au▸CR _ _ _ _ _ _ (sx E HF);have bz:=C9 au;clear au;obtain⟨n,r,c2,u⟩:=Eb aa.h;have u0:A6 V6 (O<|U wr) 0<|C Y F.1:=Cc aw 0))
    try
     have be:D<|KM m k V6 (O (U W)+4) (G f q j1) (G x q1 m1) di c4:=AE b5▸AE bz▸(HM.next (V':=AD (AD w2 (O (U W)+3)<|Cg kk nn s (G f q j1)<|G x q1 m1) (O<|U wr)<|Cf F) Ba λj h1 _ hx=>by grind [setRow_other]).ac λ_ h=>h.elim;obtain⟨rfl,rfl,rfl⟩:=AE cu
    clear bb HF bz w n r c2 u u0
  all_goals try
   have hE:=HE;refine Dl (S:=λbg=>A7 bg (O<|U wr) (Cf F) 103) aw B6 λhS=>Ch 0 77 (.agg Cv) Z (λbg hZ=>C0) hS <| Ch 1 78 (.agg<|Cf F) Z (λbg hZ=>yF 11 hZ Z Z) hS ?_;have bk:=(Do _ (O (U W)+1) (O<|U wr) Cv E).trans hS;refine Ii 2 6 77 (g:=(O (U W)+1)) (T:=Cv) B6 aa.b thg bk <| Cb 3 7 (C Y 0) bk <| sF 4 8 78 (g:=(O (U W)+2)) (F:=F) B6 (Gl (V:=V6) aa.ai CT) (sx E bk) <| CK ?_;go_simp;go_wp2;refine F4 results129 (EO aa.ai.drew CT Cv F) (C Y 0) Z Z Z Z ⟨(EO aa.ai.drew CT Cv F).2.2,?_⟩;exact⟨.error F,AF HE,_,_,_,_,_,_,_,_,_,_,Z⟩
  obtain⟨p3,br⟩:=IA<|EG bs l (K bs+1-ag) ag;obtain⟨p4,bt⟩:=IA<|EG bs l (K bs+1-(p3+1))<|p3+1;obtain⟨cn,dc⟩:=uY HL N ax (ay p) cr az hg.out br bt;have bi:=λV=>cS V ag az.1;rw[<-br]at bi;have cc:=λV=>cH V p3;have cz:=λV=>cB V p3 9;have d4:=az.1;have d0:=cn.1;refine(bi _).mono ?_;rintro e w7 ⟨rfl,a6⟩;obtain⟨x1,x2,x3,y1,y2,y3,cb,cv⟩:∃x1 x2 x3 y1 y2 y3,D (FU W (Ct bs fm d l) (Cg (FJ m) 0 ⟨#[]⟩ (G x1 x2 x3)<|G y1 y2 y3) w7)/\D (KM m k w7 (O (U W)+4) (G x1 x2 x3) (G y1 y2 y3) _ _):=⟨_,_,_,_,_,_,by rw[AE am];exact aa.next a6,be.next a6.size λj _ v=>a6.block j v⟩
  have cq:=C9<|vb ax;clear br bi aa be a6 aw cn ax N a9;simp only[];obtain⟨n,r,c2,u⟩:=Eb cb.h;rcases dc with⟨hh,al⟩|⟨B,af,hh,hx⟩
  case' inr=>have du:=λV=>Et (bs:=bs) (k:=p3) (c:=B) af V;have dz:=Dk af;clear af;rcases hx with⟨aj,al,ap⟩|⟨aj,a5,ap,g',c8,d3,dy,bl⟩|⟨aj,a5,al⟩
  case' inl=>have HE:=C9 al;generalize D5 bs l p3 9=xx at *
  case' inr.inl=>obtain⟨ar,cp⟩:=(a2 B).1 aj;have a0:=C9 al;have cx:=C9 ap;clear ap
  case' inr.inr.inl=>obtain⟨ar,cp⟩:=(a2 B).2 aj;have dj:((B.toNat:J) != 44)=AQ:=by rw[a5];rfl
  case' inr.inr.inl=>have cd:=λV=>cS V (p3+1) ap.1;rw[<-bt]at cd;have N:=C9 bl;have ct:=C9<|vd bl;clear a5 bl ap
  case' inr.inr.inr=>obtain⟨ar,cp⟩:=(a2 B).2 aj;have dj:((B.toNat:J) != 44)=AP:=B7
  case' inr.inr.inr=>have HE:=C9 al;generalize D5 bs l p3 9=xx at *;clear a5
  all_goals
   rw[hh]at cc;clear hh cS cH cB bt
   try clear aj
   try clear al
   go_wp2_with(first
    |(go_at_call 116;refine MI (cc _) cb.next ?_;clear n r c2 u;intro w8 cf ab;have b6:=C9<|cv.next cf.size λj _ v=>cf.block j v;obtain⟨n,r,c2,u⟩:=Eb ab.h)
    |(go_at_call 84;refine MI (cz _) ab.next ?_;clear n r c2 u;intro w9 bj ae)
    |(go_at_call 83;refine MI (cd _) ab.next ?_;clear n r c2 u;intro w9 bj ae;have cw:=C9<|b6.next bj.size λj _ v=>bj.block j v;obtain⟨n,r,c2,u⟩:=Eb ae.h)
    |((with_reducible refine CO rfl 101 (.tmp 9) rfl (O (U W)+3) ?hx 101 (Cg (FJ m) 0 ⟨#[]⟩ (G x1 x2 x3)<|G y1 y2 y3) (0,0) _ ?hg underlying101 rfl ?hi ?_);(case hx=>exact rfl);(case hg=>exact ab.d);(case hi=>exact NL))
    |((with_reducible refine zT 6 111 rfl rfl (O (U W)+1) (Cg (FJ m) 0 ⟨#[]⟩ (G x1 x2 x3)<|G y1 y2 y3) ?_ ?_);exact⟨Z,Z,ab.b,thg⟩)
    |((with_reducible refine zF 8 114 rfl rfl (O (U W)+2) (0,0) ?_ ?_);exact⟨Z,Z,Gl ab.ai CT⟩)
    |((with_reducible refine zT 6 101 rfl rfl (O (U W)+1) (Cv) ?_ ?_);exact⟨Z,Z,ae.b,thg⟩)
    |((with_reducible refine zF 8 104 rfl rfl (O (U W)+2) xx ?_ ?_);exact⟨Z,Z,Gl ae.ai CT⟩))
  all_goals try
   have hE:=HE;refine F4 results129 (EO ae.ai CT Cv xx) (C Y 0) Z Z Z Z ⟨(EO ae.ai CT Cv xx).2.2,?_⟩;exact⟨.error xx,AF HE,_,_,_,_,_,_,_,_,_,_,Z⟩
  all_goals try
   have hE:=a0;refine F4 results129 (EO ab.ai CT (Cg (FJ m) 0 ⟨#[]⟩ (G x1 x2 x3)<|G y1 y2 y3) (0,0)) (C Y<|(p3:J)+1) Z Z Z Z ⟨(EO ab.ai CT _ (0,0)).2.2,?_⟩;exact⟨_,AF a0,cx,_,_,_,_,_,_,_,_,_,rfl,(b6.next Ba λj c9 db=>BP).ai E⟩
  subst c8;go_roundg (g'+1);exact⟨p4,_,_,_,_,_,_,_,_,Z,by show _<=_;have:=AE hg;omega,N,by show _<=_;have:=AE a7;have:=AE cq;omega,ct,ae,cw⟩;omega
def vh(r:AS (AI×AI)<|AJ (Lit×AM Unit)×AH):AS (AI×AI)<|AM Unit×AH:=match r with
 |.error e=>.error e
 |.ok (es,q)=>.ok (.map es,q)
def O2(m:AK)(kf:AJ A1->AH->A5 A1)(rd:AH->AS (AI×AI) (AM Unit×AH))(x p:AH)(kl:AJ A1)(ds:AJ<|AM Unit):AS (AI×AI) (AM Unit×AH) :=
 bif m then vh (GJ kf rd x p kl.reverse<|FH kl ds)else XH (GX rd x p ds)
structure MR(W wr:Ap)(A H y:A3)(M:AH)(G:A3)(F:AI×AI)(V:Ap):Prop where
 a:EW W A H y V
 fl:V.heap[M+1]?=An (Aj (Cf F) 103)
 c:V.heap[M]?=An (Aj G 237)
 b:A0 wr V
 f:Au (Av wr)<=M
theorem MR.next{H G:A3}{M:I}(h:MR W wr A H y M G F V)(hb:A0 V V'):MR W wr A H y M G F V' :=
 ⟨h.a.next hb,(hb.block _<|Cd h.fl).trans h.fl,(hb.block _<|Cd h.c).trans h.c,h.b.trans<|hb.mono h.b.size,h.f⟩
def MR.st{H G:A3}{M:I}(h:MR W wr A H y M G F V)(b:O (U W)+5<=M)(a:J×J):MR W wr A H y M G a (AD V (M+1)<|Cf a) :=
 ⟨h.a.else _ E _,CR _ _ _ _ _ _ h.fl,sx E h.c,Dq h.b<|AY h.f,h.f⟩
def MR.cs{H:A3}{n:J}{o:AK}{M:I}(h:MR W wr (Ct bs fm d l) H y M (Da a n q o) F V):(A6 V (O<|U W) 0 (Ae ⟨Aw bs⟩)/\A6 V (O<|U W) 1 (C Y fm)/\A6 V (O<|U W) 2 (C Y d)/\A6 V (O<|U W) 3 (C Y l))/\A6 V M 1 (C Y n)/\A6 V M 2 (C Y q)/\A6 V (M+1) 0 (C Y F.1) :=
 ⟨Eb h.a.h,Cc h.c 1,Cc h.c 2,Cc h.fl 0⟩
def IR.ai(h:IR k V b kv u kl ds)(c:bif m then K kl=K ds else kl=[]/\kv=Cq)(a:B<=b):CV (k+1) V (λj=>B<=j/\j<O (U V)) (.agg<|Cg (FJ m) 0 ⟨#[]⟩ kv u)<|bif m then .map (FH kl ds)else .agg ds:=by
 cases m
 .obtain⟨rfl,rfl⟩:=c;exact h.c.ac a
 exact h.map c a
theorem vk{n:J}{o:AK}(hl:Lm bs l lim)(hi:Cx bs lim p)(j:∀k w x r,Eo fm bs lim p=.ok (k,w,x,r)->a=J6 k/\n=nR k w x/\q=(r:J)/\o=Im k x/\F=(0,0))(m:∀f,Eo fm bs lim p=.error f->F=f):(CN bs l p=AQ/\(F.1==0)=AQ/\El (DS fm) bs lim kl.reverse p=.error F)\/∃c,bs[p]?=H c/\CN bs l p=AP /\
   (((DS fm c.toNat).1=8/\(F.1==0)=AQ/\El (DS fm) bs lim kl.reverse p=.error F)\/(¬(DS fm c.toNat).1=8/\D5 bs l p 9=(9,(p:J))/\El (DS fm) bs lim kl.reverse p=.error (9,(p:J))) \/
   ((DS fm c.toNat).1=8/\F=(0,0)/\∃x r:I,n=min (x:J) 9223372036854775807/\q=r/\Cx bs lim r/\p<r/\El (DS fm) bs lim kl.reverse p=match Ds bs lim x r [] 0 with
        |.error e=>.error e
        |.ok (l,r)=>if l∈kl then .error (12,(r:J)-1)else .ok (l,r))):=by
 have N:=hi.1;rcases Rz (bs:=bs) (lim:=lim) p with L|⟨c,d,h⟩
 .have B:Eo fm bs lim p=.error (D5 bs l p 9)/\El (DS fm) bs lim kl.reverse p=.error (D5 bs l p 9)/\CN bs l p=AQ/\¬(D5 bs l p 9).1=0:=by grind [Eo,El,IM,Ic,Gk,Hr]
  grind
 refine AG ⟨c,d,J4 hl hi d h,?_⟩;have z:=Eu hi d h;have b:El (DS fm) bs lim kl.reverse p=if(DS fm c.toNat).1=8 then(match CZ bs lim (DS fm c.toNat).2.1 (p+1) (DS fm c.toNat).2.2 with
      |.error e=>.error e
      |.ok (x,q)=>match Ds bs lim x q [] 0 with
       |.error e=>.error e
       |.ok (l,r)=>if l∈kl.reverse then .error (12,(r:J)-1)else .ok (l,r))else .error (9,(p:J)):=by
  unfold El;rw[d];simp only[];rw[Cl h];try rfl
 by_cases g:(DS fm c.toNat).1=8
 .rw[Cp g]at b;have i:Eo fm bs lim p=match CZ bs lim (DS fm c.toNat).2.1 (p+1) (DS fm c.toNat).2.2 with
      |.error f=>.error f
      |.ok (x,q)=>.ok (8,(DS fm c.toNat).2.1,x,q):=by
   unfold Eo;rw[d];simp only[];rw[Cl h,g,Cl B8];try rfl
  rcases har:CZ bs lim (DS fm c.toNat).2.1 (p+1) (DS fm c.toNat).2.2 with f|y
  .rw[har]at b i;obtain rfl:=m _ i;exact AF ⟨g,B2<|Qh _ _ _ F.1 F.2 har,b⟩
  rw[har]at b i;obtain⟨_,s,t,_,u⟩:=j _ _ _ _ i;obtain⟨A,v⟩:=Qn _ _ _ _ _ z har;simp only[aD]at b;exact AG<|AG ⟨g,u,y.1,y.2,s,t,v,E,b⟩
 rw[Cl g]at b;exact AG<|AF ⟨g,Id hl hi d h 9,b⟩
def gp{kf:AJ A1->I->A5 A1}{kj r:I}{ks:AJ A1}(g:O2 m kf rd (x-kj) p kl ds=R)(hx:kj<x)(b:bif m then K kl=K ds/\∃t,kf kl.reverse p=.ok (t,r)/\ks=kl++[t]else p=r):(∀f,rd r=.error f->R=.error f)/\∀a c,rd r=.ok (a,c)->O2 m kf rd (x-(kj+1)) c ks (ds++[a])=R:=by
 rw[<-g,show x-kj=(x-(kj+1))+1 by omega];cases m
 .cases b;simp only[O2,cond,GX];exact⟨λf h=>keS,λd q h=>by rw[h]⟩
 obtain⟨i,t,e,rfl⟩:=b;simp only[O2,cond,GJ,e];exact⟨λf h=>keS,λd q h=>by rw[h,XI i,SO];rfl⟩
theorem vm(h:Jm k bs lim W r e W'):∃c n s a i j b p m z F,e=Ak (Af #[.agg<|Cg c n s (G a i j)<|G b p m,C Y z,.agg<|Cf F])/\(∀f,r=.error f->F=f)/\∀d q,r=.ok (d,q)->F=(0,0)/\z=(q:J)/\Cx bs lim q/\CV k W' (λj=>O (U W)<=j/\j<O (U W')) (.agg<|Cg c n s (G a i j)<|G b p m) d:=by
 obtain⟨_,h⟩:=h;obtain f|y:=r
 .obtain⟨c,n,s,a,i,j,b,p,m,z,h⟩:=h;exact⟨c,n,s,a,i,j,b,p,m,z,f,h,Ba⟩
 obtain⟨g,c,n,s,a,i,j,b,p,m,h,l⟩:=h;exact⟨c,n,s,a,i,j,b,p,m,y.2,(0,0),h,B9⟩
theorem gq(m:AK)(W:X){q0:I}{n:J}(o:AK)(hn:n=min (x:J) 9223372036854775807)(hl:Lm bs l lim)(hi:Cx bs lim q0)(hb:K bs<=200000000)(cz:0<=dp)(c4:dp<=100000)(bq:fm=2\/fm=3)(bj:∀p,DI<|rd p)(br:∀p x b4,rd p=.ok (x,b4)->p<b4)(cJ:∀V (p:I),Cx bs lim p->Ar As 91 #[.agg<|Ct bs fm d l,C Y p,C Y<|dp+1] V (Jm k bs lim V<|rd p)):Ar As 134 #[.agg<|Ct bs fm d l,.agg<|Da (FJ m) n (q0:J) o,C Y dp] W<|Jm (k+1) bs lim W<|O2 m (El (DS fm) bs lim) rd x q0 [] []:=by
 obtain⟨ti,ct,cp,cq,cr⟩:=DL Tryz.infoThR;obtain⟨si,co,cm,cn,b0⟩:=DL Tryz.infoStrR;obtain⟨a3,q⟩:=CC<|O2 m (El (DS fm) bs lim) rd x q0 [] [];rw[AE q];have HL:=T hl;have HI:=T hi;have HN:=T hn;have b6:D (∀V (p:I),Cx bs lim p->Ar As 91 #[Ag #[Ae ⟨Aw bs⟩,C Y fm,C Y d,C Y l],C Y p,C Y<|dp+1] V (Jm k bs lim V<|rd p)):=cJ;have b8:=T br;have b5:=T bj;have be:=T bq;clear bq hl hi cJ br bj hn;unfold Ct Da;go_enter func134,ntmps134
 go_wp2_with(first
  |((with_reducible refine zT 9 22 rfl rfl (O (U W)+4) (Cg (FJ m) 0 ⟨#[]⟩ Cq Cq) ?_ ?_);exact⟨Z,Z,(fX W).d,thg⟩;refine FA ?_;intro V0 bc;have v:D<|EW W (Ct bs fm d l) (Da (FJ m) n (q0:J) o) (Cg (FJ m) 0 ⟨#[]⟩ Cq Cq) V0:=bc▸(fX W).aq _;clear bc;obtain⟨B,L,c2,N⟩:=Eb v.h;have d0:A6 V0 (O (U W)+1) 0<|C Y<|FJ m:=Cc v.c 0;have d1:A6 V0 (O (U W)+1) 1<|C Y n:=Cc v.c 1;have d2:A6 V0 (O (U W)+1) 2<|C Y (q0:J):=Cc v.c 2))
 go_loopg[10,11] (K bs+1-q0) (λg cv cw wr=>∃(p P:I) (kl:AJ A1) (Q:AJ<|AM Unit) (f:A4) (kn h:I) (ua:A4) (un uc:I),cv=C Y p/\cw=C Y P/\D (K bs+1<=p+g)/\D (Cx bs lim p)/\D (P<=p/\P<=x)/\D (K Q=P/\bif m then K kl=K Q else kl=[]/\AX f kn h=Cq)/\D (O2 m (El (DS fm) bs lim) rd (x-P) p kl Q=a3)/\D (EW W (Ct bs fm d l) (Da (FJ m) n (q0:J) o) (Cg (FJ m) 0 ⟨#[]⟩ (Ac f kn h)<|Ac ua un uc) wr)/\D (IR k wr (O (U W)+5) (Ac f kn h) (Ac ua un uc) kl Q))
 exact⟨q0,0,[],[],Ao,0,0,Ao,0,0,rfl,rfl,Bp,HI,⟨Ex _,Ex _⟩,⟨rfl,by cases m<;>simp[Cq]⟩,q,v,uW⟩;clear q v HI B L c2 N d0 d1 d2;obtain⟨p,P,kl,Q,f,kn,h,ua,un,uc,rfl,rfl,hg,HI,HK,z,q,v,ab⟩:=hrel;have cj:=HI.1;have c5:=HK.1;have cu:=v.size;obtain⟨B,L,c2,N⟩:=Eb v.h;have d0:A6 wr (O (U W)+1) 0<|C Y<|FJ m:=Cc v.c 0;have d1:A6 wr (O (U W)+1) 1<|C Y n:=Cc v.c 1;by_cases ch:P=x
 .have ci:¬(P:J)<n:=AY<|AE HN;have a:D<|a3=.ok (bif m then .map (FH kl Q)else .agg Q,p):=by show _=_;rw[<-AE q,ch,Rf];cases m<;>rfl
  clear q hg
  go_wp2_with(first
   |((with_reducible refine CO rfl 101 (.tmp 9) rfl (O (U W)+4) ?hx 101 (Cg (FJ m) 0 ⟨#[]⟩ (Ac f kn h)<|Ac ua un uc) (0,0) _ ?hg underlying101 rfl ?hi ?_);(case hx=>exact rfl);(case hg=>exact v.d);(case hi=>exact KG))
   |((with_reducible refine zT 6 111 rfl rfl (O (U W)+2) (Cg (FJ m) 0 ⟨#[]⟩ (Ac f kn h)<|Ac ua un uc) ?_ ?_);exact⟨Z,Z,v.b,thg⟩)
   |((with_reducible refine zF 8 113 rfl rfl (O (U W)+3) (0,0) ?_ ?_);exact⟨Z,Z,sx E v.a⟩))
  have hf:=v.ai (Cg (FJ m) 0 ⟨#[]⟩ (Ac f kn h)<|Ac ua un uc) (0,0);refine F4 results134 hf (C Y p) Z Z Z Z ⟨hf.2.2,?_⟩;rw[AE a];exact⟨HI,_,_,_,_,_,_,_,_,_,rfl,(ab.next Ba λj bu bv=>BP).ai z.2 E⟩
 have bw:P<x:=AY HK.2;have ci:(P:J)<n:=AY<|AE HN;cases m
 case' true =>
  dsimp only[FJ,cond]at *;have aj:D (∀ap,El (DS fm) bs lim kl.reverse p=.error ap->a3=.error ap):=λap hf=>by rw[<-AE q,show x-P=(x-P-1)+1 by omega];simp only[O2,cond,GJ,hf];rfl
  go_wp2_with fail
  refine(fG (bs:=bs) d (l:=l) HL HI hb be).mono ?_;clear B L c2 N d0 d1;rintro e w6 ⟨⟨bi,hn,hq,ho,F,rfl,h1,h2⟩,ak⟩;simp only[]
  go_wp2_with(first
   |((with_reducible refine zH 12 (y:=38) rfl rfl (O<|U w6) bi hn hq ho ?_ ?_);exact⟨Z,Z,(Gs w6).1⟩)
   |((with_reducible refine zF 13 39 rfl rfl (O (U w6)+1) F ?_ ?_);exact⟨Z,Z,sx E (Gs w6).2⟩;refine fY ?_;intro V7 a6 bt bp;have u:=T<|MR.mk (F:=F) (G:=Da bi hn hq ho) ((v.next ak).next a6) bp bt (ak.trans<|a6.out.mono ak.size) ak.size;clear a6 bt bp;have cg:O (U W)+5<=O (U w6):=CE cu ak.size;generalize O (U w6)=M at *;have hc:=u.cs))
  have cH:=λV=>NK bs fm d l V p;have cB:=OW bs fm d l;clear ak w6;rcases vk (kl:=kl) HL HI h1 h2 with⟨hh,av,A⟩|⟨c,am,hh,ae⟩
  case' inr=>have cT:=λV=>tP V (fm:=fm) d l (c:=c) am be;rcases ae with⟨R,av,A⟩|⟨R,bk,A⟩|⟨R,rfl,x1,r1,az,rfl,aw,cl,A⟩
  all_goals rw[hh]at cH;clear hh
  case' inr.inr.inr =>
   rw[Fm R]at cT;have cR:=λV=>fV V fm d (i:=r1) (x:=x1) (n:=hn) az HL aw hb;dsimp only[Ct]at cR
   cases al:Ds bs lim x1 r1 [] 0 with
   |error F=>?_
   |ok y=>?_
   all_goals rw[al]at A cR
  case' inl=>have a:=T<|aj _ A;let b:I:=56
  case' inr.inl=>rw[Fm R]at cT;have a:=T<|aj _ A;clear R am;let b:I:=56
  case' inr.inr.inl =>
   rw[FO R]at cT;have cE:=λV=>cB V p 9;rw[bk]at cE;have a:=T<|aj _ A;clear bk R am A;generalize((9:J),(p:J))=EE at *
  case' inr.inr.inr.error =>
   have a:=T<|aj _ A;have av:(F.1==0)=AQ:=B2<|TH (bs:=bs) _ _ _ _ F.1 F.2 al;dsimp only[NU]at cR;clear al az R am aw;let b:I:=71
  case' inr.inr.inr.ok =>
   obtain⟨tt,r⟩:=y;obtain⟨ax,bx⟩:=XK _ _ _ _ _ _ aw al;obtain⟨F,ar⟩:∃F:J×J,F=(0,0):=⟨_,rfl⟩
   have av:(F.1==0)=AP:=by rw[ar];rfl
   dsimp only[NU]at cR;rw[<-ar]at cR;have bz:=ax.1;have cK:=λV (ae:IR k V (O (U W)+5) (Ac f kn h) (Ac ua un uc) kl Q)=>df (W:=V) (ks:=kl) tt (P5 ae.q λ_ _ _=>trivial)<|AY<|AE z;rcases Classical.em (tt∈kl)with au|au
  case' inr.inr.inr.ok.inl =>
   simp only[au,if_true]at A cK;have a:=T<|aj _ A;have cE:∀V,Ar As 84 #[Ag #[Ae ⟨Aw bs⟩,C Y fm,C Y d,C Y l],C Y<|(r:J)-1,C Y 12] V λe W'=>e=Ak (.agg<|Cf (12,(r:J)-1))/\A0 V W':=λV=>by
    obtain⟨r0,rfl⟩:∃r0,r=r0+1:=⟨r-1,E⟩
    have ae:=cB V r0 12;rw[RO HL ax,show(r0:J)=((r0+1:I):J)-1 by omega]at ae;exact ae
   clear al az R am au ax aw bx ar A;generalize((12:J),(r:J)-1)=EE at *
  case' inr.inr.inr.ok.inr =>
   simp only[au,if_false]at A cK;have a0:=T ax;have bg:=T A;have b7:=T ar;clear al az R am au ax aw ar
  all_goals
   have cx:=True.intro;obtain⟨⟨B,L,c2,N⟩,g1,g2,u0⟩:=hc
   try clear A
   clear h1 h2 aj
   go_wp2_with(first
    |((first|go_at_call 116|go_at_call 168|go_at_call 133);refine ck (by first|exact cH _|exact cT _|exact cR _) u.next ?_;clear u B L c2 N g1 g2 u0;intro w8 u;obtain⟨⟨B,L,c2,N⟩,g1,g2,u0⟩:=u.cs)
    |(go_at_call 169;refine(cK _<|ab.next u.b.size λj _ w=>u.b.block j w).mono ?_;rintro e a4 ⟨rfl,rfl⟩)
    |(go_at_call 84;refine ck (cE _) u.a.next ?_;clear B L c2 N u0;intro ai aa)
    |((with_reducible refine zT _ _ rfl rfl (O (U W)+2) Cv ?_ ?_);exact⟨Z,Z,aa.b,thg⟩)
    |((with_reducible refine zF _ _ rfl rfl (O (U W)+3) EE ?_ ?_);exact⟨Z,Z,sx E aa.a⟩)
    |((with_reducible refine zF 13 67 rfl rfl (M+1) F ?_ ?_);exact⟨Z,Z,u.fl⟩;refine aG (u.st cg F) ?_;clear u B L c2 N g1 g2 u0;intro a4 u;obtain⟨⟨B,L,c2,N⟩,g1,g2,u0⟩:=u.cs;have k3:A6 a4 (O (U W)+1+1+1+1) 3<|Ac f kn h:=Cc u.a.d 3)
    |(at_builtin;(refine JG rfl (t:=98) rfl (e:=9) (i:=si) (bytes:=16) underlying98 co cm cn b0 rfl B8 rfl ((ab.next u.b.size λj _ w=>u.b.block j w).q.alloc _) (ad:=⟨O<|U a4,0,Ao⟩) 1 1 (news:=[Ae ⟨Aw tt⟩]) rfl rfl (EU) (fO) B8 (B4<|AE z) (AY<|AE z) (B0 u.a.size) ?_);intro v' ai ba a7 b2;obtain⟨g1,ay,rfl⟩:=ownsRow_succ ba;have HM:=ab.next u.b.size λj _ w=>u.b.block j w;have aa:=T<|u.a.a3 (λg e=>DK HM.q e) a7;have bh:=T<|HM.key ba a7 b2;clear ba a7 b2 B L c2 N k3 u0;have k3:A6 ai (O (U W)+1+1+1+1) 3<|Ac f kn h:=Cc aa.d 3;have f3:ai.frozen? ⟨O (U W)+1+1+1+1,3,Ao⟩=AQ:=Dy ai (O (U W)+4) 3 _ _ aa.d;obtain⟨B,L,c2,N⟩:=Eb aa.h))
  all_goals try
   refine Dl (S:=λag=>A7 ag (M+1) (Cf F) 103) u.fl B6 λhS=>Ch 1 (b+1) (.agg<|Cf F) Z (λag hZ=>yF 13 hZ Z Z) hS <| Ch 0 b (.agg Cv) Z (λag hZ=>C0) hS ?_;have ah:=(Do _ (O (U W)+2) (M+1) Cv E).trans hS;refine Ii 2 6 b (g:=(O (U W)+2)) B6 u.a.b thg ah <| Cb 3 7 (C Y 0) ah <| sF 4 8 (b+1) (g:=(O (U W)+3)) (F:=F) B6 (sx E u.a.a) (sx E ah) <| CK ?_;dsimp only[b];go_simp;go_wp2;refine F4 results134 (u.a.drew.ai Cv _) (C Y 0) Z Z Z Z ⟨(u.a.drew.ai Cv _).2.2,?_⟩;rw[AE a];exact⟨_,_,_,_,_,_,_,_,_,_,Z⟩
  all_goals try
   have hf:=aa.ai Cv EE;refine F4 results134 hf (C Y 0) Z Z Z Z ⟨hf.2.2,?_⟩;rw[AE a];exact⟨_,_,_,_,_,_,_,_,_,_,Z⟩
  have v:=T (aa.cell<|Ac (Aa g1) (K kl+1) ay).1;have ab:D<|IR k (AB ai ⟨O (U W)+1+1+1+1,3,Ao⟩<|Ac (Aa g1) (K kl+1) ay) (O (U W)+5) (Ac (Aa g1) (K kl+1) ay) (Ac ua un uc) (kl++[tt]) Q:=bh.next Bd λj bu bv=>CY ai _ _ _ B7
  generalize AB ai ⟨O (U W)+1+1+1+1,3,Ao⟩ (Ac (Aa g1) (K kl+1) ay)=V14 at *;have an:D (K Q=P/\∀dd,K (kl++[tt])=K (Q++[dd])):=⟨z.1,λdd=>B0 z.2⟩
  have ao:=T<|gp (m:=AP) q bw ⟨z.2,tt,bg,Z⟩
 case' false =>
  dsimp only[FJ,cond]at *
  go_wp2_with fail
  have an:=T (OK z.1 λdd:A2=>z.2);have ao:=T<|gp (ks:=kl) q bw Z;have a0:=HI;have bz:=cj;obtain⟨r,hr⟩:=DF p;rw[hr]at ao a0 bz ⊢;have bx:p<=r:=E
 all_goals
  try clear b7 bg
  try clear aa bh u k3 f3
  try clear d0 d1
  clear z q B L c2 N;refine(b6 _ r a0).mono ?_;rintro e w2 a5;obtain⟨kk,nn,s,a1,i1,j1,b1,q1,m1,c8,F,rfl,bn,bo⟩:=vm a5;have aq:=a5.1;have cf:=T<|v.next aq;have bf:=T<|ab.next aq.size λj _ w=>aq.block j w;have ce:=T<|Exists.elim ab.c λxs ae g e=>En ae.1 (g:=g) e;have ca:=T λg e=>En ab.q (g:=g) e;have c7:=v.size;have b0:=aq.size;clear a5 aq;simp only[];cases hr:rd r
  case' error ap =>
   obtain rfl:=bn ap hr;have a:=T<|ao.1 _ hr;have av:(F.1==0)=AQ:=B2<|b5.out r F.1 F.2 hr
  case' ok y =>
   obtain⟨dd,pq⟩:=y;obtain⟨hF,rfl,bb,hA⟩:=bo _ _ hr;have av:(F.1==0)=AP:=kfH;have cb:=T bb;have HA:=T hA;have cl:=b8.out r dd pq hr;have c6:=bb.1;have cc:=T<|ao.2 _ _ hr;clear bb hA hF
  all_goals
   clear hr bn bo ao
   go_wp2_with(first
    |((with_reducible refine zT 17 96 rfl rfl (O<|U w2) (Cg kk nn s (Ac a1 i1 j1)<|Ac b1 q1 m1) ?_ ?_);exact⟨Z,Z,(Gs w2).1,thg⟩)
    |((with_reducible refine zF 19 98 rfl rfl (O (U w2)+1) F ?_ ?_);exact⟨Z,Z,sx E (Gs w2).2⟩;refine fY ?_;intro V5 af cd bd;have ac:=T<|cf.next af;obtain⟨B,L,c2,N⟩:=Eb ac.h;have u0:A6 V5 (O (U w2)+1) 0<|C Y F.1:=Cc bd 0;have k4:A6 V5 (O (U W)+1+1+1+1) 4<|Ac ua un uc:=Cc ac.d 4)
    |((with_reducible refine CO rfl 101 (.tmp 17) rfl (O<|U w2) ?hx 101 #[C Y kk,C Y nn,.string s,Ac a1 i1 j1,Ac b1 q1 m1] (0,0) _ ?hg underlying101 rfl ?hi ?_);(case hx=>exact rfl);(case hg=>exact cd);(case hi=>exact KG))
    |(at_builtin;(obtain⟨xs,ho,bm⟩:=(bf.next af.size λj _ w=>af.block j w).c;refine JG Z Z underlying99 ct cp cq cr Z B8 Z (ho.alloc _) 1 1 Z Z (EU) (U0) B8 (B4 an.1) (AY an.1) (B0 ac.size) ?_);intro v' w5 a9 a8 b3;obtain⟨g5,cy,rfl⟩:=ownsRow_succ a9;have a2:=T<|ac.a3 (λg e=>DK ho e) a8;have b9:=T<|(bf.next af.size λj _ w=>af.block j w).kid ho bm (HA.same (λj w=>⟨w.1,CQ w.2 af.size⟩) λj w=>af.block j w.2) ce ca E rfl a9 a8 b3;clear ho bm a9 a8 b3 B L c2 N k4 u0;have k4:A6 w5 (O (U W)+1+1+1+1) 4<|Ac ua un uc:=Cc a2.d 4;have f4:w5.frozen? ⟨O (U W)+1+1+1+1,4,Ao⟩=AQ:=Dy w5 (O (U W)+4) 4 _ _ a2.d))
  rotate_left
  next =>
   refine Dl (S:=λag=>A7 ag (O (U w2)+1) (Cf F) 103) bd B6 λhS=>Ch 1 103 (.agg<|Cf F) Z (λag hZ=>yF 19 hZ Z Z) hS <| Ch 0 102 (.agg Cv) Z (λag hZ=>C0) hS ?_;have ah:=(Do _ (O (U W)+2) (O (U w2)+1) Cv E).trans hS;refine Ii 2 6 102 B6 ac.b thg ah <| Cb 3 7 (C Y 0) ah <| sF 4 8 103 (g:=(O (U W)+3)) (F:=F) B6 (sx E ac.a) (sx E ah) <| CK ?_;go_simp;go_wp2;refine F4 results134 (ac.drew.ai Cv _) (C Y 0) Z Z Z Z ⟨(ac.drew.ai Cv _).2.2,?_⟩;rw[AE a];exact⟨_,_,_,_,_,_,_,_,_,_,Z⟩
  go_roundg (gk-(pq-p));exact⟨pq,P+1,_,Q++[dd],_,_,_,_,_,_,rfl,Bb,by grind [D],cb,⟨E,E⟩,⟨B0 an.1,an.2 dd⟩,cc,(a2.cell _).2,b9.next Bd λj bu bv=>CY w5 _ _ _ B7⟩;have:=AE hg;omega
def Qs(k:AH)(bs:A1)(lim:AI)(W:Ap)(r:AS (AI×AI)<|AM Unit×AH)(T:A3)(z:AI)(F:AI×AI):Prop :=
 ∀W',A0 W W'->Jm k bs lim W r (Ak<|Af #[.agg T,Ab Al z,.agg<|Cf F]) W'
def U3{n:J}{s:AT}(f:J×J):Qs k bs lim W (.error f) (Cg kd n s Cq Cq) z f :=
 λ_ h=>⟨h,_,_,_,_,_,_,_,_,_,_,rfl⟩
def gu(k:AH)(W:Ap)(bs:A1)(fm d l lim dp:AI)(R:AS (AI×AI)<|AM Unit×AH)(a n q:AI)(o:AK):Prop :=
 (a=3/\o=AP/\1<=q/\q<=200000001/\∃f,(∀V,Ar As 84 #[.agg<|Ct bs fm d l,Ab Al<|q-1,Ab Al 10] V λe W'=>e=Ak (.agg<|Cf f)/\A0 V W')/\Qs k bs lim W R Cv 0 f)
  \/ (a=3/\o=AQ/\Qs k bs lim W R (Cg 3 n ⟨#[]⟩ Cq Cq) q (0,0))
  \/ (∃tx,((a==4)=tx/\(tx=AQ->a=5))/\∃lx r f,(∀V,Ar As 133 #[.agg<|Ct bs fm d l,Ab Al q,Ab Al n,Ah tx] V λe W'=>e=Ak (Af #[.string lx,Ab Al r,.agg<|Cf f])/\A0 V W')/\Qs k bs lim W R (Cg a 0 lx Cq Cq) r f)
  \/ ((a=6\/a=7)/\∀V,Ar As 134 #[.agg<|Ct bs fm d l,.agg<|Da a n q o,Ab Al dp] V<|Jm k bs lim V R)
  \/ ((0<=a/\a<=2)/\Qs k bs lim W R (Cg a 0 ⟨#[]⟩ Cq Cq) q (0,0))
def XN(k:AH)(W:Ap)(bs:A1)(fm d l lim dp:AI)(R:AS (AI×AI)<|AM Unit×AH)(a n q:AI)(o:AK)(F:AI×AI):Prop :=
 ((F.1==0)=AQ/\Qs k bs lim W R Cv 0 F)\/(F=(0,0)/\gu k W bs fm d l lim dp R a n q o)
def RW(bs:A1)(fm d l dp:AI)(i:AH):Prop :=
 CN bs l i=AQ\/(CN bs l i=AP/\∃ic:AK,(∀V,Ar As 131 #[.agg<|Ct bs fm d l,Ab Al i] V λe W'=>e=Ak (Ah ic)/\A0 V W')/\(ic=AP->dp<d))
theorem vo(k:I)(W:X)(bs:A1)(fm d l lim:J)(i:I)(dp:J)(s:CN bs l i=AP)(r:∀V,Ar As 131 #[.agg<|Ct bs fm d l,C Y i] V λe o=>e=Ak (Ah AP)/\A0 V o)(u:d<=dp)(t:D5 bs l i 11=(11,(i:J))):Ar As 91 #[.agg<|Ct bs fm d l,C Y i,C Y dp] W<|Jm (k+1) bs lim W<|.error (11,(i:J)):=by
 have q:=GI fm d s;have g:=r;unfold Ct at g;have v:AR (d<=dp)=AP:=by simpa using u
 have p:=NJ fm d t;have j:=Ll W bs fm d l;unfold Ct;go_enter func91,ntmps91
 go_wp2_with(first
  |(go_at_call 116;refine j.ck (q _) ?_;intro w m b c c2 f)
  |(go_at_call 131;refine m.ck (g _) ?_;intro x n b c c2 f)
  |(go_at_call 84;refine n.ck (p _) ?_;intro y a b c c2 f)
  |((with_reducible refine zT 6 28 rfl rfl (O (U W)+1) (Cv) ?_ ?_);exact⟨Z,Z,a.b,thg⟩)
  |((with_reducible refine zF 8 31 rfl rfl (O (U W)+2) (11,(i:J)) ?_ ?_);exact⟨Z,Z,Gl a CT⟩))
 have h:=EO a CT (Cv) (11,(i:J));exact F4 results91 h (C Y 0) Z Z Z Z ⟨h.2.2,_,_,_,_,_,_,_,_,_,_,Z⟩
theorem vp(k:I)(W:X)(lim:J)(R:AS (J×J)<|AM Unit×I)(hp:RW bs fm d l dp i)(cD:∀V,Ar As 132 #[.agg<|Ct bs fm d l,C Y i] V λe W'=>(∃a n q o F,e=Ak (Af #[.agg<|Da a n q o,.agg<|Cf F])/\XN (k+1) W bs fm d l lim dp R a n q o F)/\A0 V W'):Ar As 91 #[.agg<|Ct bs fm d l,C Y i,C Y dp] W<|Jm (k+1) bs lim W R:=by
 have HX:=Ll W bs fm d l;have z:CN bs l i=AQ\/(CN bs l i=AP/\∃r:AK,(∀V,Ar As 131 #[.agg<|Ct bs fm d l,C Y i] V λe W'=>e=Ak (Ah r)/\A0 V W')/\(r=AP->AR (d<=dp)=AQ)):=hp.imp id λ⟨aa,r,aw,h2⟩=>⟨aa,r,aw,λe=>FO<|AY<|h2 e⟩
 have ai:D (∀V,Ar As 132 #[Ag #[Ae ⟨Aw bs⟩,C Y fm,C Y d,C Y l],C Y i] V λe W'=>(∃a n q o F,e=Ak (Af #[.agg<|Da a n q o,.agg<|Cf F])/\XN (k+1) W bs fm d l lim dp R a n q o F)/\A0 V W'):=cD;clear hp cD;rcases z with aa|⟨aa,r,cI,aq⟩
 rotate_left
 cases r
 rotate_left
 replace aq:=aq rfl
 all_goals
  have ao:=GI fm d aa;unfold Ct at *;clear aa;go_enter func91,ntmps91
  go_upto_region 4 with(first
   |(go_at_call 116;refine HX.ck (ao _) ?_;clear ao;intro w2 am B L c2 N;have ae:=am)
   |(go_at_call 131;refine am.ck (cI _) ?_;clear cI B L c2 N ae;intro w3 ae B L c2 N)
   |(go_at_call 132;refine(ai _).mono ?_;clear ai B L c2 N;rintro e w6 ⟨⟨a,n,q,o,F,rfl,z⟩,ap⟩;have an:=C9<|ae.next ap;have A:=C9 z;clear z ap)
   |((with_reducible refine zH 9 (y:=36) rfl rfl (O<|U w6) a n q o ?_ ?_);exact⟨Z,Z,(Gs w6).1⟩)
   |((with_reducible refine zF 10 37 rfl rfl (O (U w6)+1) F ?_ ?_);exact⟨Z,Z,sx E (Gs w6).2⟩;refine FA ?_;intro V7 ab;have u:=C9<|ab▸an.next (Lv);have aj:=C9<|ab▸MQ;have P:=C9<|ab▸RU;have hM:O (U W)+3<=O (U w6):=Cd an.a;clear ab;generalize O (U w6)=M at *;obtain⟨B,L,c2,N⟩:=Eb u.h;obtain⟨g0,g1,g2,g3⟩:=tV P;have u0:A6 V7 (M+1) 0<|C Y F.1:=Cc aj 0))
  rcases AE A with⟨a2,v⟩|⟨rfl,z⟩
  .have w:=C9 v;clear A v
   go_wp2_with fail
   refine Dl (S:=λj=>A7 j (M+1) (Cf F) 103) (aj) B6 λb=>Ch 1 42 (.agg<|Cf F) Z (λj m=>yF 10 m Z Z) b <| Ch 0 41 (.agg Cv) Z (λj m=>C0) b ?_;have t:=sx (cs:=Cv) (show M+1≠O (U W)+1 by omega) b;refine Ii 2 6 41 (g:=(O (U W)+1)) (T:=(Cv)) B6 (u.drew.b) thg (t) <| Cb 3 7 (C Y 0) t <| sF 4 8 42 (g:=(O (U W)+2)) (F:=(F)) B6 (Gl u.drew CT) (sx E t) <| CK ?_;go_simp;go_wp2;have p:=EO u.drew CT (Cv)<|F;exact F4 results91 p (C Y 0) Z Z Z Z (w _ p.2.2)
  replace u0:A6 V7 (M+1) 0<|C Y 0:=u0
  rcases z with⟨rfl,rfl,a3,a4,f,cB,v⟩|⟨rfl,rfl,v⟩|⟨tx,⟨a5,h5⟩,h,ah,f,c,v⟩|⟨ha,Q⟩|⟨⟨ha,hb⟩,v⟩
  .have w:=C9 v;unfold Ct at cB;clear A v
   go_wp2_with(first
    |(go_at_call 84;refine ck (cB _) u.next ?_;clear cB B L c2 N g0 g1 g2 g3 u0;intro w8 x)
    |((with_reducible refine zT 6 49 rfl rfl (O (U W)+1) (Cv) ?_ ?_);exact⟨Z,Z,x.b,thg⟩)
    |((with_reducible refine zF 8 54 rfl rfl (O (U W)+2) f ?_ ?_);exact⟨Z,Z,Gl x CT⟩))
   have p:=EO x CT (Cv) f;exact F4 results91 p (C Y 0) Z Z Z Z<|w _ p.2.2
  .have w:=C9 v;clear A v
   go_wp2_with fail
   refine Dl (S:=λj=>A7 j M (Da 3 n q AQ) 237) (P) B6 λb=>Cb 0 55 (A9 M 1) b <| Ch 1 56 (C Y n) Z (λj m=>by have hz:A6 j M 1<|C Y n:=Cc m 1;go_simp) b ?_;refine Ch 2 57 (.agg<|Cg 3 n ⟨#[]⟩ Cq Cq) Z (λj m=>ke3) b <| Cb 3 58 (A9 M 2) b <| Ch 4 59 (C Y q) Z (λj m=>by have hz:A6 j M 2<|C Y q:=Cc m 2;go_simp) b ?_;refine Ch 5 60 (.agg<|Cf (0,0)) Z (λj m=>by unfold Cf;go_simp) b ?_;have t:=sx (cs:=Cg 3 n ⟨#[]⟩ Cq Cq) (show M≠O (U W)+1 by omega) b;refine Ii 6 6 57 (g:=(O (U W)+1)) (T:=(Cg 3 n ⟨#[]⟩ Cq Cq)) B6 (u.drew.b) thg (t) <| Cb 7 7 (C Y q) t <| sF 8 8 60 (g:=(O (U W)+2)) (F:=(0,0)) B6 (Gl u.drew CT) (sx E t) <| CK ?_;go_simp;go_wp2;have p:=EO u.drew CT (Cg 3 n ⟨#[]⟩ Cq Cq) (0,0);exact F4 results91 p (C Y q) Z Z Z Z<|w _ p.2.2
  .have w:=C9 v;have t3:(a==3)=AQ:=by cases tx<;>grind
   have t5:tx=AP\/(tx=AQ/\(a==5)=AP):=B9;have HR:=C9 c;clear A v h5 c;rcases t5 with rfl|⟨rfl,t5⟩
   all_goals
    have c:=AE HR;unfold Ct at c
    go_wp2_with(first
     |(go_at_call 133;refine MI (c _) u.next ?_;clear c B L c2 N g0 g1 g2 g3 u0;intro w8 ad x;have ak:=C9<|(ad.block _<|Cd P).trans P;have ax:=Cd ak)
     |((with_reducible refine zF 13 76 rfl rfl (O<|U w8) f ?_ ?_);exact⟨Z,Z,Cj w8⟩;refine FA ?_;intro V9 ac;have af:=C9<|ac▸x.next (KO);have au:=C9<|ac▸CR _ _ _ _ _ _ (Cj _);have av:=C9<|ac▸((KO (V:=w8)).block _ ax).trans ak;clear ac;generalize O (U w8)=M2 at *))
    refine Dl (S:=λj=>A7 j M (Da a n q o) 237/\A7 j M2 (Cf f) 103) (⟨av,au⟩) B6 λb=>Ch 5 82 (.agg<|Cf f) Z (λj m=>yF 13 m.2 Z Z) b <| Cb 0 77 (A8 M) b <| Ch 1 78 (C Y a) Z (λj m=>by have hz:A6 j M 0<|C Y a:=Cc m.1 0;go_simp) b ?_;refine Cb 2 79 (.string h) b <| Ch 3 80 (.agg<|Cg a 0 h Cq Cq) Z (λj m=>ke3) b <| Cb 4 81 (C Y ah) b ?_;have t:=OK (sx (cs:=Cg a 0 h Cq Cq) (show M≠O (U W)+1 by omega) b.1) (sx (cs:=Cg a 0 h Cq Cq) (show M2≠O (U W)+1 by omega) b.2);refine Ii 6 6 80 (g:=(O (U W)+1)) (T:=(Cg a 0 h Cq Cq)) B6 (af.drew.b) thg (t) <| Cb 7 7 (C Y ah) t <| sF 8 8 82 (g:=(O (U W)+2)) (F:=f) B6 (Gl af.drew CT) (⟨sx E t.1,sx E t.2⟩) <| CK ?_;go_simp;go_wp2;have p:=EO af.drew CT (Cg a 0 h Cq Cq) f;exact F4 results91 p (C Y ah) Z Z Z Z<|w _ p.2.2
  .have ar:=C9 Q;clear A Q;rcases ha with rfl|rfl
   all_goals
    have Q:=AE ar;unfold Ct at Q
    go_wp2_with(first
     |((with_reducible refine CO rfl 237 (.tmp 9) rfl (M) ?hx 237 (Da _ n q o) (0,0) _ ?hg underlying237 rfl ?hi ?_);(case hx=>exact rfl);(case hg=>exact P);(case hi=>exact TU)))
    refine(Q _).mono ?_;clear Q B L c2 N g0 g1 g2 g3 u0;rintro e w8 ag;have az:=Cd u.a;obtain⟨ad,r',kk,nn,s,a1,i1,j1,b1,p1,m1,a0,F,ay,rfl,hA,hF⟩:=MM<|XL ag;have x:=C9<|u.next ad;have al:=C9 ag.2;clear ag ay hA hF ad;simp only[]
    go_wp2_with(first
     |((with_reducible refine zT 6 90 rfl rfl (O (U W)+1) (Cg kk nn s (G a1 i1 j1)<|G b1 p1 m1) ?_ ?_);exact⟨Z,Z,x.b,thg⟩)
     |((with_reducible refine zF 8 92 rfl rfl (O (U W)+2) F ?_ ?_);exact⟨Z,Z,Gl x CT⟩))
    have p:=EO x CT (Cg kk nn s (G a1 i1 j1)<|G b1 p1 m1) F;refine F4 results91 p (C Y a0) Z Z Z Z ⟨p.2.2,?_⟩;obtain f|y:=R
    .exact al
    obtain⟨h1,kd,n',s',a',i',j',b',p',m',h2,h3⟩:=AE al;exact⟨h1,kd,n',s',a',i',j',b',p',m',h2,eQ h3 u.ac.size az⟩
  have w:=C9 v;have t3:(a==3)=AQ:=B7;have t4:(a==4)=AQ:=B7;have t5:(a==5)=AQ:=B7;have t6:(a==6)=AQ:=B7;have t7:(a==7)=AQ:=B7;clear A v
  go_wp2_with fail
  refine Dl (S:=λj=>A7 j M (Da a n q o) 237) (P) B6 λb=>Cb 0 93 (A8 M) b <| Ch 1 94 (C Y a) Z (λj m=>by have hz:A6 j M 0<|C Y a:=Cc m 0;go_simp) b ?_;refine Ch 2 95 (.agg<|Cg a 0 ⟨#[]⟩ Cq Cq) Z (λj m=>ke3) b <| Cb 3 96 (A9 M 2) b <| Ch 4 97 (C Y q) Z (λj m=>by have hz:A6 j M 2<|C Y q:=Cc m 2;go_simp) b ?_;refine Ch 5 98 (.agg<|Cf (0,0)) Z (λj m=>by unfold Cf;go_simp) b ?_;have t:=sx (cs:=Cg a 0 ⟨#[]⟩ Cq Cq) (show M≠O (U W)+1 by omega) b;refine Ii 6 6 95 (g:=(O (U W)+1)) (T:=(Cg a 0 ⟨#[]⟩ Cq Cq)) B6 (u.drew.b) thg (t) <| Cb 7 7 (C Y q) t <| sF 8 8 98 (g:=(O (U W)+2)) (F:=(0,0)) B6 (Gl u.drew CT) (sx E t) <| CK ?_;go_simp;go_wp2;have p:=EO u.drew CT (Cg a 0 ⟨#[]⟩ Cq Cq) (0,0);exact F4 results91 p (C Y q) Z Z Z Z<|w _ p.2.2
theorem gw(k:I)(W:X)(bs:A1)(fm d l lim:J)(i:I)(dp:J)(c:AU)(f:bs[i]?=H c)(m:¬(i:J)=lim)(hl:Lm bs l lim)(hi:Cx bs lim i)(g:d<=dp):Ar As 129 #[.agg<|Ct bs fm d l,C Y i,C Y dp] W<|Fc k bs lim W<|.error (11,(i:J)):=by
 have s:AR (d<=dp)=AP:=by simpa using g
 have b:∀V,Ar _ 84 #[.agg _,.int _ i,.int _ 11] V λe o=>e=Ak (.agg<|Cf _)/\Below _ V o:=λV=>by have h:=M1 V bs fm d l i 11;rw[Id hl hi f m]at h;exact h
 have n:=Ll W bs fm d l;clear f m hl hi g;unfold Ct;go_enter func129,ntmps129
 go_wp2_with(first
  |(go_at_call 84;apply Ec (b _) n.next λ_ h=>h.h;clear b;intro t a p q c2 r)
  |((with_reducible refine zT 6 17 rfl rfl (O (U W)+1) (Cv) ?_ ?_);exact⟨Z,Z,a.b,thg⟩)
  |((with_reducible refine zF 8 20 rfl rfl (O (U W)+2) (11,(i:J)) ?_ ?_);exact⟨Z,Z,Gl a CT⟩))
 have j:=EO a CT (Cv) (11,i);refine F4 results129 j (.int _ 0) Z Z Z Z ⟨j.2.2,?_⟩;exact⟨_,AF Z,_,_,_,_,_,_,_,_,_,_,Z⟩
def vq(s:Cw)(c:AU)(p:I):DI<|Ih s c p:=dS
theorem vr(a:bs[p]?=H c)(h:Ey c=AQ):GG bs l p=AQ:=by grind [GG]
def vt(h:Ey c=AP):48<=(c.toNat:J)/\(c.toNat:J)<=57:=Dr h
def vu(h:¬Ey c=AP):(c.toNat:J)<48\/57<(c.toNat:J):=by have b:¬(48<=(c.toNat:J)/\(c.toNat:J)<=57):=λa=>h<|Fm a;omega
theorem vv(W:X)(fm d:J)(b:bs[i]?=H c)(u:c.toNat=45\/Ey c=AP)(j:¬(i:J)=lim)(hl:Lm bs l lim)(hi:Cx bs lim i)(hb:K bs<=281474976710656){s:Cw}(r:s.e=bs)(t:s.d=lim):Ar As 130 #[.agg<|Ct bs fm d l,C Y i] W λe f=>JP bs lim (Ih s c<|i+1) e/\A0 W f:=by
 subst r;subst t;unfold Ih GV;simp only[];have p:=Eu hi b j;by_cases a:c.toNat=45
 .rw[Cp a];have v:∀x,GG _ l _=AQ->D5 _ l _ 9=x->Ar _ _ #[.agg<|Ct _ fm d l,.int _ i] W λe f=>JP s.e s.d _ e/\Below _ W f:=λx n o=>Ce (tu b a hb n o) λe f h=>⟨⟨_,AF Z,(λz q e=>keC),h.1⟩,h.2⟩
  rcases hc1:s.e[i+1]? with _|m
  .grind [TO,Ic,IM]
  simp only[];by_cases k:((i+1:I):J)=s.d
  .grind [TO,Hr,Gk]
  rw[Cl k];by_cases g:Ey m=AP
  .rw[Cp g];have h:=eP W fm d b (AF ⟨Z,a,Z,Z⟩) hc1 g k hl p hb;grind [JO]
  grind [vr,Id]
 rw[Cl a];have g:=u.resolve_left a;have h:=eP W fm d b (AG ⟨Z,a,Z,Z⟩) b g j hl hi hb;grind [JO]
theorem gx{nm:AU->I->A5 J}{wi:I}(a:(p:J)=lim)(hl:p<K bs):Fw bs lim depth nm (g+1) wi p=.error (8,(p:J)):=by grind [Fw]
theorem XO{s:Cw}(fm:J)(hl:Lm s.e l s.d)(hb:K s.e<=281474976710656)(z:s.d<=200000000)(N:s.b<=100000):∀(g a:I) (W:X) (i:I),(a:J)<=s.b->s.b<a+g->Cx s.e s.d i ->
  Ar As 90 #[.agg<|Ct s.e fm s.b l,C Y i,C Y a] W (Fc g s.e s.d W<|Fw s.e s.d s.b (Ih s) g a i)
 |0,a,W,i,d,j,_=>absurd j E
 |g+1,a,W,i,d,j,hi=>by
  have ac:∀p,a+1<=s.b->DI _:=λp h=>Xg (bs:=s.e) (lim:=s.d) (depth:=s.b) (λc p=>vq s c p) g (a+1) p E E;have ad:a<s.b->∀p:I,p=s.d->p<K s.e->Fw _ _ s.b (Ih s) g (a+1) p=.error (8,p):=λh p n o=>by
   obtain⟨g',rfl⟩:∃g',g=g'+1:=⟨g-1,E⟩
   exact gx n o
  rw[Fw];rcases hc:s.e[i]? with _|c
  .exact Xw fm _ a (IM hi.1 hc 9) (RS)<|AF<|Ic hc
  simp only[];by_cases b:(i:J)=s.d
  .rw[Cp b];exact Xw fm _ a (Gk hl hc b 9) (RS)<|AF<|Hr hl hc b
  rw[Cl b];have k:=J4 hl hi hc b;have f:∀(w:AU) (v:A1) (kd:J) (dd:A2),c=w->(w.toNat,Aw (w::v),kd)∈([(110,#[110,117,108,108],0),(102,#[102,97,108,115,101],1),(116,#[116,114,117,101],2)])->(∀W':X,CV 1 W' _ _ dd)->K (w::v)<=10->Ar _ 90 #[.agg _,.int _ i,.int _ a] W (Fc (g+1) _ _ W (match Dt _ _ v _ with
    |.error aa=>.error aa
    |.ok (_,q)=>.ok _)):=λw v kd dd d j n o=>by
   have y:=λV=>WT V fm s.b _ (CE o B8) hl hi hb;rw[tB hc b d]at y;rcases hr:Dt s.e s.d v (i+1)with ab|r
   .rw[hr]at y;exact eT hc k (by rw[d]) j y<|RS
   obtain⟨ah,q⟩:=r;rw[hr]at y;exact eT hc k (by rw[d]) j y<|eS (RN v _ q (Eu hi hc b) hr).2 n
  unfold Kf;by_cases R:c.toNat=110
  .rw[Cp R];exact f 110 _ 0 _ (by apply PN.1;rw[R];rfl) B8 (λ_=>rfl) B8
  rw[Cl R];by_cases S:c.toNat=116
  .rw[Cp S];exact f 116 _ 2 _ (by apply PN.1;rw[S];rfl) B8 (λ_=>rfl) B8
  rw[Cl S];by_cases Q:c.toNat=102
  .rw[Cp Q];exact f 102 _ 1 _ (by apply PN.1;rw[Q];rfl) B8 (λ_=>rfl) B8
  rw[Cl Q];by_cases F:c.toNat=34
  .rw[Cp F];have A:=λV=>eM V fm s.b hl (Eu hi hc b) hb z;rcases hr:DA s.e s.d (K s.e+1-(i+1)) (i+1) [] 0 with ab|r
   .rw[hr]at A;exact eU hc k F A<|RS
   obtain⟨x,q⟩:=r;rw[hr]at A;exact eU hc k F A<|eS (TP _ _ [] 0 x q (Eu hi hc b) hr) λ_=>rfl
  rw[Cl F];have ei:(i+1:I)-1=(i:J):=E;by_cases L:c.toNat=91
  .rw[Cp L];refine Xx hc k<|AF ⟨AF L,λV=>?_⟩;by_cases u:(a:J)=s.b
   .grind [gw]
   rw[Cl u];exact gn (m:=AQ) g V a hc L b hl hi hb z E E N (λp=>ac p E) (ad E) (λp x q h=>RH s _ _ _ _ _ h) λP p e=>XO fm hl hb z N g (a+1) P p E E e
  rw[Cl L];by_cases B:c.toNat=123
  .rw[Cp B];refine Xx hc k<|AF ⟨AG B,λV=>?_⟩;by_cases u:(a:J)=s.b
   .grind [gw]
   rw[Cl u];exact gn (m:=AP) g V a hc B b hl hi hb z E E N (λp=>ac p E) (ad E) (λp x q h=>RH s _ _ _ _ _ h) λP p e=>XO fm hl hb z N g (a+1) P p E E e
  rw[Cl B];by_cases t:c.toNat=45\/Ey c=AP
  .rw[Cp t];have hN:=λV=>vv V fm s.b hc t b hl hi hb Z Z;refine Xx hc k<|AG ⟨t.imp id λh=>AY<|vt h,λV=>Ce (hN V) λaa W' h=>?_⟩;obtain⟨⟨r',d,j,n⟩,o⟩:=h;obtain ab|x:=r'
   .exact⟨o,_,tC d,_,_,_,_,_,_,_,_,_,_,n⟩
   exact⟨o,_,tD d,(j _ _ Z).1,_,_,_,_,_,_,_,_,_,n,NV ⟨Z,(j _ _ Z).2⟩⟩
  rw[Cl t,ei];have ag:¬c.toNat=45:=λh=>t<|AF h;have af:¬Ey c=AP:=λh=>t<|AG h;have ae:=Id hl hi hc b 9;exact Xw fm _ a ae (RS) (AG ⟨k,c,hc,λx hx=>by simp at hx;omega,AY<|vu af⟩)
def vw(a:fm=2\/fm=3)(c:AU):(DS fm c.toNat).1<=10:=by
 rcases a with rfl|rfl
 .exact(X8 c.toNat c.toNat_lt).1
 exact(X9 c.toNat c.toNat_lt).1
theorem U4{w:I}(a:¬so=5)(b:¬so=6):nR so w x=min (x:J) 9223372036854775807:=by grind [nR]
def U5{x:J}:-9223372036854775808<=wrap64 x/\wrap64 x<=9223372036854775807:=by unfold wrap64;omega
def vx(x:I)(w:J):-9223372036854775808<=GF x w/\GF x w<=9223372036854775807:=by
 unfold GF;split
 .exact U5
 split
 .exact U5
 split
 .exact U5
 exact U5
theorem gy(fm:J)(aa:fm=2\/fm=3)(hl:Lm bs l lim)(hb:K bs<=200000000)(au:depth<=100000):∀(g s:I) (W:X) (i:I),(s:J)<=depth->depth<s+g->Cx bs lim i ->
  Ar As 91 #[.agg<|Ct bs fm depth l,C Y i,C Y s] W (Jm g bs lim W<|DR (DS fm) bs lim depth g s i):=by
 intro g
 induction g with
 |zero=>omega
 |succ g ih =>
  intro s W i P Q hi;have go:∀R,RW bs fm depth l s i->(∀a n q o F,(∀b w x p,Eo fm bs lim i=.ok (b,w,x,p)->a=J6 b/\n=nR b w x/\q=(p:J)/\o=Im b x/\F=(0,0))->(∀f,Eo fm bs lim i=.error f->F=f)->XN (g+1) W bs fm depth l lim s R a n q o F)->Ar As 91 #[.agg<|Ct bs fm depth l,C Y i,C Y s] W (Jm (g+1) bs lim W R):=λR m hB=>vp g W lim R m λV=>Ce (fG (W:=V) depth hl hi hb aa) λe v ⟨⟨a,n,q,o,F,he,r,h4⟩,h5⟩=>⟨⟨a,n,q,o,F,he,hB a n q o F r h4⟩,h5⟩
  have z:=λf hf m ab=>go _ m λa n q o F _ h4=>AF (by obtain rfl:=h4 f hf;exact⟨ab,U3 _⟩);rcases hc:bs[i]? with _|ai
  .conv=>rhs;rw[DR,hc]
   exact z _ (by unfold Eo;rw[hc]) (AF<|Ic hc) rfl
  by_cases m:(i:J)=lim
  .conv=>rhs;rw[DR,hc]
   simp only[];rw[Cp m];exact z _ (by grind [Eo]) (AF<|Hr hl hc m) Z
  have hh:=J4 hl hi hc m;have hn:=Eu hi hc m;have c:=λV=>tQ V depth l hc aa;have al:=vw aa ai;obtain⟨b,w,S,ag⟩:∃b w S,DS fm ai.toNat=(b,w,S):=⟨_,_,_,rfl⟩
  rw[TC hc m ag];rw[ag]at c al;simp only[]at c al;have t:¬b=0->Eo fm bs lim i=match CZ bs lim w (i+1) S with
    |.error f=>.error f
    |.ok (x,q)=>.ok (b,w,x,q):=λN=>by
   grind [Eo]
  by_cases N:b=0
  .rw[Cp N];have e:=XE hc m (by rw[ag];exact N);exact z _ e (AG ⟨hh,_,c,λh=>by simp at h;omega⟩) rfl
  rw[Cl N];have t:=t N;have B:∀x q R a,Eo fm bs lim i=.ok (b,w,x,q)->J6 b=a->RW bs fm depth l s i->gu (g+1) W bs fm depth l lim s R a (nR b w x) q (Im b x)->Ar As 91 #[.agg<|Ct bs fm depth l,C Y i,C Y s] W (Jm (g+1) bs lim W R):=λx q R a hf ha m hB=>go R m λa n q' o F r _=>by obtain⟨rfl,rfl,rfl,rfl,rfl⟩:=r _ _ _ _ hf;rw[ha];exact AG ⟨Z,hB⟩
  by_cases ad:b=9\/b=10
  .have j:=c;rw[Fm ad]at j;by_cases ap:(s:J)=depth
   .grind [vo,Id]
   rw[Cl λh=>ap h.2];have m:RW bs fm depth l s i:=AG ⟨hh,_,j,λ_=>E⟩;rcases har:CZ bs lim w (i+1) S with f|y
   .rw[har]at t;have ab:(f.1==0)=AQ:=BW;exact z f t m ab
   obtain⟨x,q⟩:=y;rw[har]at t;have u:=(Qn _ _ _ _ _ hn har).2;simp only[];have hJ:∀V (p:I),Cx bs lim p->Ar As 91 #[.agg<|Ct bs fm depth l,C Y p,C Y<|(s:J)+1] V (Jm g bs lim V<|DR (DS fm) bs lim depth g (s+1) p):=λV p aq=>ih (s+1) V p E E aq;have aj:=λp=>TI (DS fm) (bs:=bs) (lim:=lim) (depth:=depth) g (s+1) p E E;have ak:=λp x q h=>Qe (DS fm) bs lim depth g (s+1) p x q h;rcases ad with rfl|rfl
   .have hP:=λV=>gq AQ (k:=g) V (bs:=bs) (fm:=fm) (d:=depth) (l:=l) (lim:=lim) (q0:=q) (x:=x) (n:=(nR 9 w x)) (Im 9 x) (dp:=s) (U4 B8 B8) hl u hb E E aa (rd:=(DR (DS fm) bs lim depth g<|s+1)) aj ak hJ;exact B _ _ _ 6 t Z m<|AG<|AG<|AG<|AF ⟨AF Z,hP⟩
   have hP:=λV=>gq AP (k:=g) V (bs:=bs) (fm:=fm) (d:=depth) (l:=l) (lim:=lim) (q0:=q) (x:=x) (n:=(nR 10 w x)) (Im 10 x) (dp:=s) (U4 B8 B8) hl u hb E E aa (rd:=(DR (DS fm) bs lim depth g<|s+1)) aj ak hJ;exact B _ _ _ 7 t Z m<|AG<|AG<|AG<|AF ⟨AG Z,hP⟩
  have j:=c;rw[FO ad]at j;rw[Cl λh=>ad h.1];have m:RW bs fm depth l s i:=AG ⟨hh,_,j,λe=>keC⟩;rcases har:CZ bs lim w (i+1) S with f|y
  .rw[har]at t;have ab:(f.1==0)=AQ:=BW;exact z f t m ab
  obtain⟨x,q⟩:=y;rw[har]at t;obtain⟨aw,u⟩:=Qn _ _ _ _ _ hn har;have av:0<q:=E;have ao:∀V,Ar As 84 #[.agg<|Ct bs fm depth l,C Y<|(q:J)-1,C Y 10] V λe v=>e=Ak (.agg<|Cf (10,(q:J)-1))/\A0 V v:=λV=>by
   obtain⟨r0,rfl⟩:∃r0,q=r0+1:=⟨q-1,E⟩
   have h:=M1 V bs fm depth l r0 10;rw[RO hl u,show(r0:J)=((r0+1:I):J)-1 by omega]at h;exact h
  simp only[];have ae:∀(a:J) (dd:A2),J6 b=a->0<=a/\a<=2->(∀v:X,CV (g+1) v (λan=>O (U W)<=an/\an<O (U v)) (.agg<|Cg a 0 ⟨#[]⟩ Cq Cq) dd)->Ar As 91 #[.agg<|Ct bs fm depth l,C Y i,C Y s] W (Jm (g+1) bs lim W<|.ok (dd,q)):=λa dd N P Q=>B _ _ _ a t N m<|AG<|AG<|AG<|AG ⟨P,λv h=>⟨h,u,_,_,_,_,_,_,_,_,_,Z,Q v⟩⟩;have am:=λP Q=>B _ _ _ 3 t P m<|AF ⟨Z,Q,E,AY u.1,_,ao,U3 _⟩;have af:∀ac,J6 b=3->Im b x=AQ->nR b w x=ac -> -9223372036854775808<=ac/\ac<=9223372036854775807->Ar As 91 #[.agg<|Ct bs fm depth l,C Y i,C Y s] W (Jm (g+1) bs lim W<|.ok (.lit<|.int Y ac,q)):=λac P Q r h4=>by subst r;exact B _ _ _ 3 t P m<|AG<|AF ⟨Z,Q,λv h=>⟨h,u,_,_,_,_,_,_,_,_,_,Z,NV ⟨Z,h4⟩⟩⟩
  have hv:b=1\/b=2\/b=3\/b=4\/b=5\/b=6\/b=7\/b=8:=E;rcases hv with rfl|rfl|rfl|rfl|rfl|rfl|rfl|rfl
  .exact ae 0 _ Z B8 λ_=>NV Z
  .exact ae 1 _ Z B8 λ_=>NV Z
  .exact ae 2 _ Z B8 λ_=>NV Z
  .unfold Gm;simp only[];by_cases L:9223372036854775807<x
   .rw[show FE 4 w x q=.error (10,(q:J)-1) by simp[FE,L]];exact am Z kf0
   rw[show FE 4 w x q=.ok (x:J) by simp[FE,L]];exact af _ Z kf0 (by simp[nR];omega) E
  .unfold Gm;simp only[];rw[show FE 5 w x q=.ok (GF x w) by simp[FE]];exact af _ Z (by simp[Im]) (by simp[nR])<|vx x w
  .unfold Gm;simp only[];by_cases L:9223372036854775807<x
   .rw[show FE 6 w x q=.error (10,(q:J)-1) by simp[FE,L]];exact am Z kf0
   rw[show FE 6 w x q=.ok (-1-(x:J)) by simp[FE,L]];exact af _ Z kf0 (by simp[nR];omega) E
  .have A:=λV=>uV V (bs:=bs) fm depth (i:=q) (x:=x) (n:=(nR 7 w x)) (U4 B8 B8) hl u hb;unfold Gm;simp only[];rcases hr:EV bs lim x q []with f|y
   .rw[hr]at A;exact B _ _ _ 5 t Z m<|AG<|AG<|AF ⟨AQ,⟨Z,λ_=>rfl⟩,_,0,f,A,U3 f⟩
   obtain⟨lx,ah⟩:=y;rw[hr]at A;exact B _ _ _ 5 t Z m<|AG<|AG<|AF ⟨AQ,⟨Z,λ_=>rfl⟩,_,ah,_,A,λv h=>⟨h,(fW _ _ _ _ _ u hr).1,_,_,_,_,_,_,_,_,_,Z,NV Z⟩⟩
  have A:=λV=>fV V (bs:=bs) fm depth (i:=q) (x:=x) (n:=(nR 8 w x)) (U4 B8 B8) hl u hb;unfold Gm;simp only[];rcases hr:Ds bs lim x q [] 0 with f|y
  .rw[hr]at A;exact B _ _ _ 4 t Z m<|AG<|AG<|AF ⟨AP,⟨Z,λe=>keC⟩,_,0,f,A,U3 f⟩
  obtain⟨lx,ah⟩:=y;rw[hr]at A;exact B _ _ _ 4 t Z m<|AG<|AG<|AF ⟨AP,⟨Z,λe=>keC⟩,_,ah,_,A,λv h=>⟨h,(XK _ _ _ _ _ _ u hr).1,_,_,_,_,_,_,_,_,_,Z,NV Z⟩⟩
def vy(k:I)(fm:J)(Q:fm=1)(L:∀V,Ar As 90 #[.agg<|Ct bs fm d l,C Y i,C Y 0] V<|Fc k bs lim V r):Ar As 54 #[.agg<|Ct bs fm d l,C Y i] W<|Fc k bs lim W r:=by
 have tf:(fm==1)=AP:=kfW;have B:D (∀V,Ar As 90 #[Ag #[Ae ⟨Aw bs⟩,C Y fm,C Y d,C Y l],C Y i,C Y 0] V<|Fc k bs lim V r):=L;have HX:=Ll W bs fm d l;have e:∀A,O (U<|Az (Az (Az W<|M A 115)<|M Cv 101)<|M (Cf (0,0)) 103)=O (U W)+3:=λA=>Ba;clear Q L;unfold Ct;go_enter func54,ntmps54
 go_wp2_with fail
 refine Ce (B _) ?_;rintro ae f S;obtain⟨ac,x,t,v,s,m,o,p,n,w,u,z,F,R,rfl,b,hF⟩:=MM S;have g:=T<|HX.next ac;have aa:=T R;have y:=T hF;have HA:D (∀a q,x=.ok (a,q)->Cx bs lim q/\z=(q:J)/\F=(0,0)/\CV k f (λj=>O (U W)+3<=j/\j<O (U f)) (.agg<|Cg t v s (G m o p)<|G n w u) a):=λa q h=>⟨(b a q h).1,(b a q h).2.1,(b a q h).2.2.1,(b a q h).2.2.2.same (λj c=>⟨by have h2:=c.1;have N:=e #[Ae ⟨Aw bs⟩,C Y fm,C Y d,C Y l];unfold Cv Cg Cq Cf at N;simp only[CL,A0]at h2 N;omega,c.2⟩) λ_ _=>rfl⟩
 clear S R hF b B e;simp only[]
 go_wp2_with(first
  |((with_reducible refine zT 4 13 rfl rfl (O (U W)+1) (Cg t v s (G m o p)<|G n w u) ?_ ?_);exact⟨Z,Z,g.b,thg⟩)
  |((with_reducible refine zF 6 15 rfl rfl (O (U W)+2) (F) ?_ ?_);exact⟨Z,Z,Gl g CT⟩))
 have P:=EO g CT (Cg t v s (G m o p)<|G n w u)<|F;refine F4 results54 P (C Y z) Z Z Z Z ⟨P.2.2,x,aa,?_⟩;obtain ab|ad:=x
 .obtain rfl:=y.out ab rfl;exact⟨_,_,_,_,_,_,_,_,_,_,Z⟩
 obtain⟨a,q⟩:=ad;obtain⟨hq,rfl,rfl,b⟩:=HA.out a q rfl;refine⟨hq,_,_,_,_,_,_,_,_,_,Z,b.same (λj c=>⟨AY c.1,by simpa using c.2⟩) λj c=>?_⟩;rw[Do _ _ _ _ E,Do _ _ _ _ E]
def gz(k:I)(fm:J)(ac:¬fm=1)(cJ:∀V,Ar As 91 #[.agg<|Ct bs fm d l,C Y i,C Y 0] V<|Fc k bs lim V r):Ar As 54 #[.agg<|Ct bs fm d l,C Y i] W<|Fc k bs lim W r:=by
 have tf:(fm==1)=AQ:=by simpa using ac
 have B:D (∀V,Ar As 91 #[Ag #[Ae ⟨Aw bs⟩,C Y fm,C Y d,C Y l],C Y i,C Y 0] V<|Fc k bs lim V r):=cJ;have HX:=Ll W bs fm d l;have R:∀A,O (U<|Az (Az (Az W<|M A 115)<|M Cv 101)<|M (Cf (0,0)) 103)=O (U W)+3:=λA=>Ba;unfold Ct;go_enter func54,ntmps54
 go_wp2_with fail
 refine Ce (B _) ?_;rintro ae S Q;obtain⟨ab,x,t,v,s,m,o,p,n,w,u,z,F,P,rfl,b,hF⟩:=MM Q;have g:=T<|HX.next ab;have y:=T P;have f:=T hF;have e:D (∀a q,x=.ok (a,q)->Cx bs lim q/\z=(q:J)/\F=(0,0)/\CV k S (λj=>O (U W)+3<=j/\j<O (U S)) (.agg<|Cg t v s (G m o p)<|G n w u) a):=λa q h=>⟨(b a q h).1,(b a q h).2.1,(b a q h).2.2.1,(b a q h).2.2.2.same (λj c=>⟨by have h2:=c.1;have L:=R #[Ae ⟨Aw bs⟩,C Y fm,C Y d,C Y l];unfold Cv Cg Cq Cf at L;simp only[CL,A0]at h2 L;omega,c.2⟩) λ_ _=>rfl⟩
 clear Q P hF b B R;simp only[]
 go_wp2_with(first
  |((with_reducible refine zT 4 19 rfl rfl (O (U W)+1) (Cg t v s (G m o p)<|G n w u) ?_ ?_);exact⟨Z,Z,g.b,thg⟩)
  |((with_reducible refine zF 6 21 rfl rfl (O (U W)+2) (F) ?_ ?_);exact⟨Z,Z,Gl g CT⟩))
 have N:=EO g CT (Cg t v s (G m o p)<|G n w u)<|F;refine F4 results54 N (C Y z) Z Z Z Z ⟨N.2.2,x,y,?_⟩;obtain aa|ad:=x
 .obtain rfl:=f.out aa rfl;exact⟨_,_,_,_,_,_,_,_,_,_,Z⟩
 obtain⟨a,q⟩:=ad;obtain⟨hq,rfl,rfl,b⟩:=e.out a q rfl;refine⟨hq,_,_,_,_,_,_,_,_,_,Z,b.same (λj c=>⟨AY c.1,by simpa using c.2⟩) λj c=>?_⟩;rw[Do _ _ _ _ E,Do _ _ _ _ E]
def gA(W:X)(g:fm=1\/fm=2\/fm=3)(hl:Lm bs l lim)(hb:K bs<=200000000)(j:lim<=200000000)(a:0<=d)(b:d<=100000)(hi:Cx bs lim i):Ar As 54 #[.agg<|Ct bs fm d l,C Y i] W<|Fc (d.toNat+1) bs lim W<|Ev fm bs d lim i:=by
 have c:d<((0:I):J)+((d.toNat+1:I):J):=E;rcases g with rfl|rfl|rfl
 .refine vy (d.toNat+1) 1 Z λV=>?_;exact XO (s:=⟨Ao,bs,0,d,lim,0,0⟩) 1 hl (CE hb B8) j b (d.toNat+1) 0 V i a c hi
 .refine gz (d.toNat+1) 2 B8 λV=>?_;exact Ce (gy 2 (AF Z) hl hb b (d.toNat+1) 0 V i a c hi) λe f h=>XL h
 refine gz (d.toNat+1) 3 B8 λV=>?_;exact Ce (gy 3 (AG Z) hl hb b (d.toNat+1) 0 V i a c hi) λe f h=>XL h
def gC{b c:J}:(Ct [] 0 0 0).size=(Ct bs a b c).size:=rfl
def gD{b c:J}:(Ct bs a b c).all (·.oneCell')=AP:=by simp[Ct,Value.oneCell']
structure QK(w:Ap)(c:CF)(N:AH)(A:A3)(W:Ap):Prop where
 ac:A0 w W
 h:W.heap[Au (Av w)]?=An (Aj c.ai 40)
 aq:W.heap[N]?=An (Aj A 126)
def QK.a0{w:X}{c:CF}(h:QK w c N A W)(hb:A0 W W'):QK w c N A W' :=
 ⟨Cs h.ac<|CG hb h.ac.size,Ca (Co hb _<|Cd h.h) h.h,Ca (Co hb _<|Cd h.aq) h.aq⟩
theorem lK{c:CF}(h:¬CW c=0)(ps:AJ<|A1×AK):LC c ps=CW c/\Ks c ps=(0,0):=by grind [LC,Ks]
def Za{c:CF}(h:CW c=0)(a:Ja ps=AQ):LC c ps=7/\Ks c ps=(0,0):=by simp[LC,Ks,h,a]
def lL{c:CF}(h:CW c=0)(a:Ja ps=AP):LC c ps=0/\Ks c ps=Dz c.c ((Ea c.e.data.toList).map DV) ps:=by simp[LC,Ks,h,a]
theorem QL{c:CF}(h:CW c=0):Fg c.a.toNat c.e.data.toList=0:=by rw[<-(QI c).1]at h;grind [Hd]
theorem qtd{c:CF}(pc:I){w:X}(hc:Fa w c)(n:Hn w)(hp:Gb w pa ps)(hk:∀i (h:i<K ps),ps[i].1.length<=maxLen):Ar As 33 #[.agg c.ai,G pa (K ps) pc] w λe w'=>e=Ak (Af #[C Y (Ks c ps).1,C Y (Ks c ps).2,C Y<|LC c ps])/\A0 w w':=by
 have HS:=T c.size;have Q:=T hp;have HK:=T hk;have r:=T<|Pq w c;have cR:=UR (r.ai hc)<|n.ac r.ac;have R:=T<|QI c;clear hc n hp hk;go_enter func33,ntmps33
 go_wp2_with(first
  |(refine CO Z 40 _ Z _ Z _ _ _ _ r.h underlying40 Z (DC HS) ?_)
  |fail)
 refine Ce cR ?_;clear cR;rintro e a ⟨A,rfl,F,ae⟩;rw[R.1,R.2];have t:=T F.1;have u:=T F.2.1;have v:D<|EY.size=A.size:=by grind [Oe]
 have s:=T<|r.a0 ae;have b:D<|QK w c (O<|U a) A<|Az a<|M A 126:=⟨s.ac.alloc s.ac.size _,Ca (CB _ _ _<|Cd s.h) s.h,Cj _⟩
 have L:=F.2.2;rw[R.1]at L;clear F ae r s;by_cases j:CW c=0
 .obtain⟨_,sa,sk,sc,av,lo,_,ai⟩:=L j;obtain⟨ra,rc,ay,aj⟩:=ai.ac;injection ay with e1 e2 e3;subst e1;subst e2;subst e3;have W:A[37]?=H (G sa (K<|(Ea c.e.data.toList).map DV) sc):=by grind [J9,Dc]
  have ab:D<|J7 (Az a<|M A 126) sa<|(Ea c.e.data.toList).map DV:=aj.ac Cm;have ad:=UW<|QL j;clear av L ai aj;cases o:Ja ps
  .have d:=T<|Za j o;rw[j];have k:=lu pc<|Q.ac b.ac;rw[o]at k;clear j o ad W
   go_wp2_with(first
    |(refine Nh Z Z Z (O<|U a) Z ?_)
    |(refine D8 Z 126 _ _ Z (O<|U a) A Z Z 126 EY (Cj a) (KW t) v u ?_;rw[Gd])
    |(go_at_call 70;refine Ce k ?_;clear k;rintro e P ⟨rfl,m⟩;have l:=T<|b.a0 m;clear m))
   go_ret3
   rw[d.1,d.2];exact⟨Z,l.ac⟩
  have d:=T<|lL j o;have ax:K ps<=4096:=by grind [Ja]
  rw[j];have k:=lu pc<|Q.ac b.ac;rw[o]at k;clear j o;obtain⟨y,h8,ak⟩:=ad;have V:=T h8;have q:=T ak;clear h8 ak;generalize(Ea c.e.data.toList).map DV=rs at *
  go_wp2_with(first
   |(refine Nh Z Z Z (O<|U a) Z ?_)
   |(refine D8 Z 126 _ _ Z (O<|U a) A Z Z 126 EY (Cj a) (KW t) v u ?_;rw[Gd])
   |(go_at_call 70;refine Ce k ?_;clear k;rintro e P ⟨rfl,m⟩;have l:=T<|b.a0 m;have ac:=T<|ab.ac m;clear m ab b;have au:=Ca (Cc l.aq 37) W;have d2:A6 P (O<|U w) 2<|C Y c.c:=Cc l.h 2;have cC:=lp sc c.c ac y V q)
   |(go_at_call 57;refine Ce cC ?_;clear cC;rintro e w4 ⟨B,al,a3,ta,tc,nf,mf,rfl,_,ag⟩;have ap:=T<|q0V ag y ps;clear ag))
  have b:=T l.ac;clear au d2 W ac l t u v
  go_loopg[11,35] (K ps) (λg a0 az ar=>∃i f:I,a0=C Y f/\az=C Y i/\D (i+g=K ps)/\D (LD P B al rs c.c ps i f ar))
  grind [D];clear ap;obtain⟨i,f,rfl,rfl,n,p⟩:=hrel;obtain _|g:=gk
  .have aw:¬(i:J)<(K ps:J):=AY<|AE n;have hi:i=K ps:=AY<|AE n;subst hi;have cV:=q8a p;have an:=T d.1;have ao:=T d.2;clear d p;generalize Dz c.c rs ps=z at *
   go_wp2_with(first
    |(go_at_call 72;refine Ce cV ?_;clear cV;rintro e w5 ⟨rfl,af⟩;have am:=T af;clear af))
   go_ret3
   rw[AE an,AE ao];exact⟨Z,Cs b<|CG am b.size⟩
  have x:i<K ps:=AY<|AE n;have aw:(i:J)<(K ps:J):=B5;obtain⟨b2,a2,rfl,a1,p0,p1⟩:=(Q.ac<|Cs b<|CG p.ac b.size).a0 i x;have aa:D<|LD P B al rs c.c ps i f<|Az wr<|M #[Ae ⟨ps[i].1.toArray⟩,Ah ps[i].2] 146:=p.a0 Cm;have S:=q2V (h:=AE aa) y V q x ax<|HK i x;clear p aa;generalize ps[i]=st at *;obtain⟨key,ix⟩:=st;dsimp only at S p0 p1
  go_wp2_with(first
   |(go_at_call 71;refine Ce S ?_;clear S;rintro e w5 ⟨f',rfl,ah⟩;have aq:=T ah;clear ah))
  go_roundg g;exact⟨i+1,f',Z,Bb,B9,aq⟩;omega
 have d:=T<|lK j ps;clear L;generalize CW c=E at *;generalize E9 c=N at *
 go_wp2_with(first
  |(refine Nh Z Z Z (O<|U a) Z ?_)
  |(refine D8 Z 126 _ _ Z (O<|U a) A Z Z 126 EY (Cj a) (KW t) v u ?_;rw[Gd]))
 go_ret3
 rw[d.1,d.2];exact⟨Z,b.ac⟩
def q6N(s:A1)(t:A1×AK):Iq (DH s) t=if s==[42]then AP else if s==[42,42]then AQ else if s==[91,93]then t.2 else !t.2&&t.1==s:=by
 unfold DH;split
 .rfl
 split
 .rfl
 split
 .rfl
 rfl
theorem lM(s key:A1)(a:AK)(w:X):Ar As 145 #[Ae ⟨Aw s⟩,Ag #[Ae ⟨Aw key⟩,Ah a]] w λe d=>e=Ak (Ah<|Iq (DH s) (key,a))/\A0 w d:=by
 have f:=T<|q6N s (key,a);have c:D<|A0 w<|Az w<|M #[Ae ⟨Aw key⟩,Ah a] 146:=(Cu _ _).alloc (Cr _) _;cases g:(s==[42])
 .cases h:(s==[42,42])
  .cases i:(s==[91,93])
   .have b:D<|Iq (DH s) (key,a)=(!a&&key==s):=by grind [D]
    cases a
    .go_enter func145,ntmps145;go_wp2;go_ret;rw[AE b];exact⟨Z,c⟩
    go_enter func145,ntmps145;go_wp2;go_ret;rw[AE b];exact⟨Z,c⟩
   have b:D<|Iq (DH s) (key,a)=a:=B9;go_enter func145,ntmps145;go_wp2;go_ret;rw[AE b];exact⟨Z,c⟩
  have b:D<|Iq (DH s) (key,a)=AQ:=B9;go_enter func145,ntmps145;go_wp2;go_ret;rw[AE b];exact⟨Z,c⟩
 have b:D<|Iq (DH s) (key,a)=AP:=B9;go_enter func145,ntmps145;go_wp2;go_ret;rw[AE b];exact⟨Z,c⟩
structure QM(w:Ap)(a:A4)(ss:AJ A1):Prop where
 a0:∀i (h:i<At ss),∃b off,a=An ⟨b,off,Ao⟩/\b<Au (Av w)/\AC w ⟨b,off+i,Ao⟩=An (Ae ⟨ss[i].toArray⟩)
def QM.ac{w:X}{a:A4}(h:QM w a ss)(hb:A0 w w'):QM w' a ss :=
 ⟨λi f=>by obtain⟨b,off,d,c,e⟩:=h.a0 i f;exact⟨b,off,d,CQ c hb.size,Ca (hb.cell (p:=⟨b,_,Ao⟩) c) e⟩⟩
def Nl(s:A1)(ps:AJ<|A1×AK)(j:AH):AK:=match ps[j]? with
 |some t=>Iq (DH s) t
 |none=>AQ
def EL(s:A1)(ps:AJ<|A1×AK)(f:AH->AK)(k x:AH):AK :=
 (List.range k).any λj=>f j&&((s==[42,42]&&AR (j<=x))||(AR (x=j+1)&&Nl s ps j))
def qzG(s:A1)(ps:AJ<|A1×AK)(f:I->AK)(k x:I):EL s ps f (k+1) x=(EL s ps f k x||(f k&&((s==[42,42]&&AR (k<=x))||(AR (x=k+1)&&Nl s ps k)))):=by unfold EL;rw[xB]
theorem Zb{s:A1}:((DH s).1=1)↔(s==[42,42])=AP:=by grind [DH]
theorem qyI(s:A1)(ps:AJ<|A1×AK)(f:I->AK)(x:I)(hx:x<=K ps):EL s ps f (K ps+1) x=Mc (DH s) ps f x:=by
 by_cases a:(s==[42,42])=AP
 .have b:=(Zb).2 a;have d:∀j,Nl s ps j=AQ:=by grind [Nl,Iq]
  have key:EL s ps f (K ps+1) x=(List.range<|x+1).any f:=by grind [EL]
  rw[key];cases x<;>grind [Mc]
 have c:(s==[42,42])=AQ:=Bl;have b:=λh=>a<|(Zb).1 h;cases x<;>grind [Mc,EL,Nl]
theorem Zc{S T:I->AK}(h:∀x,x<n->S x=T x):Gh n S=Gh n T:=by apply OB;grind [OO,nY]
structure EB(w:Ap)(b c N:AH)(f g:AH->AK)(W:Ap):Prop where
 ac:A0 w W
 d:Au (Av w)<=b/\Au (Av w)<=c
 ne:b≠c
 e:W.heap[b]?=An (Aj (Gh N f) 4)
 a:W.heap[c]?=An (Aj (Gh N g) 4)
theorem EB.next{w:X}{c:I}{g:I->AK}(h:EB w b c N f g W)(hb:A0 W W'):EB w b c N f g W' :=
 ⟨Cs h.ac<|CG hb h.ac.size,h.d,h.ne,Ca (Co hb _ (L6.1 h.e).1) h.e,Ca (Co hb _ (L6.1 h.a).1) h.a⟩
def EB.set{w:X}{c:I}{g:I->AK}(h:EB w b c N f g W)(k:I):EB w b c N f (GU g k) (AB W ⟨c,k,Ao⟩<|Ah AP) :=
 ⟨h.ac.setCell h.d.2 _,h.d,h.ne,Ca (Gz _ _ _ _<|by simpa using h.ne) h.e,by rw[DX W _ _ _ _ _ h.a,Ta]⟩
theorem EB.same{w:X}{c:I}{g g':I->AK}(h:EB w b c N f g W)(a:∀x,x<N->g x=g' x):EB w b c N f g' W :=
 ⟨h.ac,h.d,h.ne,h.e,by rw[<-Zc a];exact h.a⟩
def EB.fr{w:X}{c:I}{g:I->AK}(h:EB w b c N f g W)(k:I)(a:k<N):A6 W b k<|Ah<|f k:=Ca (Cc h.e k)<|OO f a
def EB.gr{w:X}{c:I}{g:I->AK}(h:EB w b c N f g W)(k:I)(a:k<N):A6 W c k (Ah<|g k)/\W.frozen? ⟨c,k,Ao⟩=AQ:=⟨Ca (Cc h.a k)<|OO g a,Dy W c k _ _ h.a⟩
structure SE(w:Ap)(b N:AH)(f:AH->AK)(W:Ap):Prop where
 ac:A0 w W
 d:Au (Av w)<=b
 e:W.heap[b]?=An (Aj (Gh N f) 4)
theorem qyM(a:n<=4096)(w:X):(Instr.makeSlice 196 (C Y<|(n:J)+1)<|C Y<|(n:J)+1).run As w=.ok (G (Aa<|O<|U w) (n+1)<|n+1) (Az w<|M (Gh (n+1) λ_=>AQ) 4):=by have h:=run_make_row' (P:=As) 196 4 (Ah AQ) 1 underlying196 B6 rfl Y Y (n+1) E E w;grind [aW]
def SE.made{w:X}(h:SE w b N f W):EB w b (O<|U W) N f (λ_=>AQ) (Az W<|M (Gh N λ_=>AQ) 4) :=
 ⟨h.ac.alloc h.ac.size _,⟨h.d,h.ac.size⟩,AY<|(L6.1 h.e).1,Ca (CB _ _ _ (L6.1 h.e).1) h.e,Cj _⟩
def E6{S:X->Prop}{oi:Oper}{listed:Array AK}{a:Act}{w:X}(i dst:I)(e:S w)(h:wpAnyH P md ops Q S fuel (Ay listed i AP) (a.put (H dst) AO) w)(hi:ops[i]?=H oi:=by rfl)(b:(Region.noSelect ops&&Region.free md ops listed i&&(Region.ready md ops listed).contains i&&oi.dst==H dst && !Region.wanted oi (yielded ops a.tmps))=AP:=by kernel_rfl)(d:∀c a w,Q (.panic c) (a.put (H dst) AO) w->Q (.panic c) a w:=by exact λ_ _ _ h=>h):wpAnyH P md ops Q S (fuel+1) listed a w:=by simp only[Fj]at b;have f:oi.dst=H dst:=C7;rw[<-f]at d h;exact EN hi b.1.1.1.1 b.1.1.1.2 b.1.1.2 d (AG ⟨by simpa using b.2,Z⟩) e h
theorem qt8(S:I->AK){m:I}(h:k<=m):GU (λx=>S x||(AR (k<=x)&&AR (x<m))) m=λx=>S x||(AR (k<=x)&&AR (x<m+1)):=by grind [GU]
theorem q6e{s:A1}(h:j<K ps):Nl s ps j=Iq (DH s) (ps[j].1,ps[j].2):=by grind [Nl]
theorem q01(ps:AJ<|A1×AK)(h:i<K ss):Jn ((ss.take<|i+1).map DH) ps f=Mc (DH ss[i]) ps (Jn ((ss.take i).map DH) ps f):=by grind [List.take_succ_eq_append_getElem,Yj]
theorem qpi{w:X}{sa:A4}(sc pc:I)(a:QM w sa ss)(hP:Gb w pa ps)(hn:K ps<=4096)(hs:K ss<=1000):Ar As 105 #[Ac sa (K ss) sc,Ac pa (K ps) pc] w λab w'=>ab=Ak (Ah<|O8 (ss.map DH) ps)/\A0 w w':=by
 have HS:=T a;have HP:=T hP;have a4:=qyM hn;clear a hP;have ak:D<|SE w (O<|U w) (K ps+1) (λk=>k==0)<|Az w<|M (Ay (Gh (K ps+1) λ_=>AQ) 0<|Ah AP) 4:=by refine⟨(Cu _ _).alloc (Cr _) _,Cr _,?_⟩;grind [Cj,Ta,Zc,GU]
 have av:=OO (n:=(K ps+1)) (λ_=>AQ) (k:=0) E;go_enter func105,ntmps105;go_wp2;clear av
 go_loopg[5,6] (K ss) (λag az x V=>∃(i b:I),az=Ac (Aa b) (K ps+1) (K ps+1)/\x=C Y i/\D (i+ag=K ss)/\D (SE w b (K ps+1) (Jn ((ss.take i).map DH) ps λk=>k==0) V))
 exact⟨0,O<|U w,Z,Z,Bg,ak⟩;clear ak;obtain⟨i,b,rfl,rfl,hg,e⟩:=hrel;obtain _|ag:=gk
 .have ay:¬(i:J)<(K ss:J):=AY<|AE hg;have aw:=(Cc e.e<|K ps).trans<|OO _ E;have HF:D<|O8 (ss.map DH) ps=Jn ((ss.take i).map DH) ps (λk=>k==0) (K ps):=by show _=_;rw[Ns<|AY<|AE hg];rfl
  have HB:=T e.ac;clear e;generalize Jn ((ss.take i).map DH) ps (λk=>k==0) (K ps)=v0 at aw HF;go_wp2;go_ret;rw[AE HF];exact⟨Z,HB⟩
 have ap:i<K ss:=AY<|AE hg;have ay:(i:J)<(K ss:J):=E;have ar:D<|Jn ((ss.take<|i+1).map DH) ps (λk=>k==0)=Mc (DH ss[i]) ps (Jn ((ss.take i).map DH) ps λk=>k==0):=q01 ps ap;have am:=T e.made;generalize Jn ((ss.take i).map DH) ps (λk=>k==0)=f at *;clear e;go_wp2;generalize Az wr (M (Gh (K ps+1) λ_=>AQ) 4)=V0 at *;generalize O (U wr)=c at *;have al:=T<|HS.a0 i ap;obtain⟨B,F,rfl,ad,cS⟩:=AE al;clear al;generalize ss[i]=s at *
 go_loopg[8] (K ps+1) (λN aj V=>∃k:I,aj=C Y k/\D (k+N=K ps+1)/\D (EB w b c (K ps+1) f (EL s ps f k) V))
 exact⟨0,Z,Bg,am⟩;clear am;obtain⟨k,rfl,ah,o⟩:=hrel;obtain _|N:=gk
 .have a2:¬(k:J)<=(K ps:J):=AY<|AE ah;have HY:D<|SE w c (K ps+1) (Jn ((ss.take<|i+1).map DH) ps λk=>k==0) wr:=by have hk:k=K ps+1:=AY<|AE ah;subst hk;rw[AE ar];exact⟨o.ac,o.d.2,by rw[<-Zc (n:=(K ps+1)) λx hx=>qyI s ps f x E];exact o.a⟩
  clear o;go_wp2;go_roundg ag;exact⟨i+1,c,Z,Bb,B9,HY⟩;omega
 have R:k<K ps+1:=AY<|AE ah;have a0:(k:J)<=(K ps:J):=E;have HN:=T λx=>qzG s ps f k x;have cf:=o.fr k R;have cs:=(o.ac.cell (p:=⟨B,F+i,Ao⟩) ad).trans cS;cases A:f k
 .rw[A]at cf;have L:D<|EB w b c (K ps+1) f (EL s ps f<|k+1) wr:=o.same λx _=>by rw[HN.out x,A];simp
  clear o HN;go_wp2;have a:(λd:X=>EB w b c (K ps+1) f (EL s ps f<|k+1) d) {wr with drawn:=wr.drawn+1}:=L.next (Cu _ _).drew
  refine Ei (S:=λd=>EB w b c (K ps+1) f (EL s ps f<|k+1) d) B6 ?_;refine Cb 0 53 (Ac (Aa b) (K ps+1)<|K ps+1) a <| Cb 1 54 (C Y k) a <| Ch 2 55 (A9 b k) Z (λd j=>BS) a <| Ch 3 56 (Ah AQ) Z (λd j=>Br) a <| Cb 4 57 (Ah AQ) a <| E6 5 58 a <| E6 6 59 a <| E6 7 60 a <| E6 8 61 a <| Cb 9 62 (Ah AQ) a <| Cb 10 63 (Ah AQ) a <| E6 11 64 a <| E6 12 65 a <| E6 13 66 a <| E6 14 67 a <| E6 15 68 a <| E6 16 69 a <| E6 17 70 a <| E6 18 71 a <| E6 19 72 a <| Cb 20 73 (Ah AQ) a <| CK ?_;go_simp;have af:=T<|L.next (Cu _ _).drew;go_wp2;go_roundg N;exact⟨k+1,Bb,B9,af⟩;omega
 rw[A]at cf;cases a5:(s==[42,42])
 .have aa:D (∀x,EL s ps f (k+1) x=(EL s ps f k x||(AR (x=k+1)&&Nl s ps k))):=by grind [D]
  clear HN;by_cases ac:k<K ps
  .have ai:(k:J)<(K ps:J):=E;obtain⟨q,r,rfl,h,W,y⟩:=HP.a0 k ac;have v:=λV=>lM s ps[k].1 ps[k].2 V;have HT:D<|Nl s ps k=Iq (DH s) (ps[k].1,ps[k].2):=q6e ac;generalize ps[k]=t at *;obtain⟨key,ix⟩:=t;dsimp only at v HT W y;cases ae:Iq (DH s) (key,ix)
   .rw[ae]at v;have L:D<|EB w b c (K ps+1) f (EL s ps f<|k+1) wr:=o.same λx _=>by grind [D]
    clear o aa HT ae;go_wp2;have a:(λd:X=>EB w b c (K ps+1) f (EL s ps f<|k+1) d) {wr with drawn:=wr.drawn+1}:=L.next (Cu _ _).drew
    refine Ei (S:=λd=>EB w b c (K ps+1) f (EL s ps f<|k+1) d) B6 ?_;refine Cb 0 53 (Ac (Aa b) (K ps+1)<|K ps+1) a <| Cb 1 54 (C Y k) a <| Ch 2 55 (A9 b k) Z (λd j=>BS) a <| Ch 3 56 (Ah AP) Z (λd j=>Br) a <| Cb 4 57 (Ah AP) a <| Cb 5 58 (C Y k) a <| Cb 6 59 (Ac (H ⟨q,r,Ao⟩) (K ps) pc) a <| Cb 7 60 (C Y<|K ps) a <| Ch 8 61 (Ah AP) Z (λd j=>Bh) a <| Cb 9 62 (Ah AP) a <| Cb 10 63 (Ah AP) a <| Cb 11 64 (Ac (H ⟨B,F,Ao⟩) (K ss) sc) a <| Cb 12 65 (C Y i) a <| Ch 13 66 (A9 B<|F+i) Z (λd j=>Bh) a <| Ch 14 67 (Ae ⟨Aw s⟩) Z (λd j=>by have l:=(j.ac.cell (p:=⟨B,F+i,Ao⟩) ad).trans cS;go_simp) a <| Cb 15 68 (Ac (H ⟨q,r,Ao⟩) (K ps) pc) a <| Cb 16 69 (C Y k) a <| Ch 17 70 (A9 q<|r+k*2) rfl (λd j=>Bh) a <| Ch 18 71 (Ag #[Ae ⟨Aw key⟩,Ah ix]) rfl (λd j=>by have l:=(j.ac.cell (p:=⟨q,r+k*2,Ao⟩) h).trans W;have z2:=(j.ac.cell (p:=⟨q,r+k*2+1,Ao⟩) h).trans y;go_simp) a <| CH 19 λan Q=>?_;go_simp;refine(v _).mono ?_;clear v;rintro ab w2 ⟨rfl,P⟩;have u:=T<|(L.next (Cu _ _).drew).next P;refine Q.out _ _ u λ_=>?_;clear Q P a;have a:=AE u;refine Cb 20 73 (Ah AQ) a <| CK ?_;go_simp;go_wp2;go_roundg N;exact⟨k+1,Bb,B9,u⟩;omega
   rw[ae]at v;have aq:D (∀x,GU (EL s ps f k) (k+1) x=EL s ps f (k+1) x):=by grind [D,GU]
   clear aa HT ae;go_wp2;have a:(λd:X=>EB w b c (K ps+1) f (EL s ps f k) d) {wr with drawn:=wr.drawn+1}:=o.next (Cu _ _).drew
   refine Ei (S:=λd=>EB w b c (K ps+1) f (EL s ps f k) d) B6 ?_;refine Cb 0 53 (Ac (Aa b) (K ps+1)<|K ps+1) a <| Cb 1 54 (C Y k) a <| Ch 2 55 (A9 b k) Z (λd j=>BS) a <| Ch 3 56 (Ah AP) Z (λd j=>Br) a <| Cb 4 57 (Ah AP) a <| Cb 5 58 (C Y k) a <| Cb 6 59 (Ac (H ⟨q,r,Ao⟩) (K ps) pc) a <| Cb 7 60 (C Y<|K ps) a <| Ch 8 61 (Ah AP) Z (λd j=>Bh) a <| Cb 9 62 (Ah AP) a <| Cb 10 63 (Ah AP) a <| Cb 11 64 (Ac (H ⟨B,F,Ao⟩) (K ss) sc) a <| Cb 12 65 (C Y i) a <| Ch 13 66 (A9 B<|F+i) Z (λd j=>Bh) a <| Ch 14 67 (Ae ⟨Aw s⟩) Z (λd j=>by have l:=(j.ac.cell (p:=⟨B,F+i,Ao⟩) ad).trans cS;go_simp) a <| Cb 15 68 (Ac (H ⟨q,r,Ao⟩) (K ps) pc) a <| Cb 16 69 (C Y k) a <| Ch 17 70 (A9 q<|r+k*2) rfl (λd j=>Bh) a <| Ch 18 71 (Ag #[Ae ⟨Aw key⟩,Ah ix]) rfl (λd j=>by have l:=(j.ac.cell (p:=⟨q,r+k*2,Ao⟩) h).trans W;have z2:=(j.ac.cell (p:=⟨q,r+k*2+1,Ao⟩) h).trans y;go_simp) a <| CH 19 λan Q=>?_;go_simp;refine(v _).mono ?_;clear v;rintro ab w2 ⟨rfl,P⟩;have u:=T<|(o.next (Cu _ _).drew).next P;refine Q.out _ _ u λ_=>?_;clear Q P a;have a:=AE u;refine Cb 20 73 (Ah AP) a <| CK ?_;go_simp;obtain⟨cg,fg⟩:=u.gr (k+1) E;clear a;generalize EL s ps f k (k+1)=v0 at cg;go_wp2;go_roundg N;exact⟨k+1,Bb,B9,(u.set<|k+1).same λx _=>aq.out x⟩;omega
  have ai:¬(k:J)<(K ps:J):=E;have L:D<|EB w b c (K ps+1) f (EL s ps f<|k+1) wr:=o.same λx _=>by grind [D]
  clear o aa;go_wp2;have a:(λd:X=>EB w b c (K ps+1) f (EL s ps f<|k+1) d) {wr with drawn:=wr.drawn+1}:=L.next (Cu _ _).drew
  refine Ei (S:=λd=>EB w b c (K ps+1) f (EL s ps f<|k+1) d) B6 ?_;refine Cb 0 53 (Ac (Aa b) (K ps+1)<|K ps+1) a <| Cb 1 54 (C Y k) a <| Ch 2 55 (A9 b k) Z (λd j=>BS) a <| Ch 3 56 (Ah AP) Z (λd j=>Br) a <| Cb 4 57 (Ah AP) a <| Cb 5 58 (C Y k) a <| Cb 6 59 (Ac pa (K ps) pc) a <| Cb 7 60 (C Y<|K ps) a <| Ch 8 61 (Ah AQ) Z (λd j=>Bh) a <| Cb 9 62 (Ah AQ) a <| Cb 10 63 (Ah AQ) a <| E6 11 64 a <| E6 12 65 a <| E6 13 66 a <| E6 14 67 a <| E6 15 68 a <| E6 16 69 a <| E6 17 70 a <| E6 18 71 a <| E6 19 72 a <| Cb 20 73 (Ah AQ) a <| CK ?_;go_simp;have af:=T<|L.next (Cu _ _).drew;go_wp2;go_roundg N;exact⟨k+1,Bb,B9,af⟩;omega
 have aa:D (∀x,EL s ps f (k+1) x=(EL s ps f k x||decide (k<=x))):=by grind [D]
 clear HN;generalize EL s ps f k=G at *;go_wp2
 go_loopg[9] (K ps+1-k) (λg3 aj V=>∃m:I,aj=C Y m/\D (m+g3=K ps+1/\k<=m)/\D (EB w b c (K ps+1) f (λx=>G x||(AR (k<=x)&&AR (x<m))) V))
 exact⟨k,Z,⟨E,Cr _⟩,o.same λx _=>by grind [D]⟩;clear o cf cs;obtain⟨m,rfl,ax,g⟩:=hrel;obtain _|g3:=gk
 .have a3:¬(m:J)<=(K ps:J):=by grind [D]
  have z:D<|EB w b c (K ps+1) f (EL s ps f<|k+1) wr:=g.same λx hx=>by grind [D]
  have au:=g.fr k R;rw[A]at au;clear g;by_cases ac:k<K ps
  .have ai:(k:J)<(K ps:J):=E;obtain⟨q,r,rfl,h,W,y⟩:=HP.a0 k ac;have P0:=T W;have P1:=T y;clear W y;have v:=λV=>lM s ps[k].1 ps[k].2 V;have ht:Iq (DH s) (ps[k].1,ps[k].2)=AQ:=by grind [Iq,Zb]
   rw[ht]at v;clear ht;generalize ps[k]=t at *;obtain⟨key,ix⟩:=t;have W:=AE P0;have y:=AE P1;clear P0 P1;go_wp2;have a:(λd:X=>EB w b c (K ps+1) f (EL s ps f<|k+1) d) {wr with drawn:=wr.drawn+1}:=z.next (Cu _ _).drew
   refine Ei (S:=λd=>EB w b c (K ps+1) f (EL s ps f<|k+1) d) B6 ?_;refine Cb 0 53 (Ac (Aa b) (K ps+1)<|K ps+1) a <| Cb 1 54 (C Y k) a <| Ch 2 55 (A9 b k) Z (λd j=>BS) a <| Ch 3 56 (Ah AP) Z (λd j=>Br) a <| Cb 4 57 (Ah AP) a <| Cb 5 58 (C Y k) a <| Cb 6 59 (Ac (H ⟨q,r,Ao⟩) (K ps) pc) a <| Cb 7 60 (C Y<|K ps) a <| Ch 8 61 (Ah AP) Z (λd j=>Bh) a <| Cb 9 62 (Ah AP) a <| Cb 10 63 (Ah AP) a <| Cb 11 64 (Ac (H ⟨B,F,Ao⟩) (K ss) sc) a <| Cb 12 65 (C Y i) a <| Ch 13 66 (A9 B<|F+i) Z (λd j=>Bh) a <| Ch 14 67 (Ae ⟨Aw s⟩) Z (λd j=>by have l:=(j.ac.cell (p:=⟨B,F+i,Ao⟩) ad).trans cS;go_simp) a <| Cb 15 68 (Ac (H ⟨q,r,Ao⟩) (K ps) pc) a <| Cb 16 69 (C Y k) a <| Ch 17 70 (A9 q<|r+k*2) rfl (λd j=>Bh) a <| Ch 18 71 (Ag #[Ae ⟨Aw key⟩,Ah ix]) rfl (λd j=>by have l:=(j.ac.cell (p:=⟨q,r+k*2,Ao⟩) h).trans W;have z2:=(j.ac.cell (p:=⟨q,r+k*2+1,Ao⟩) h).trans y;go_simp) a <| CH 19 λan Q=>?_;go_simp;refine(v _).mono ?_;clear v;rintro ab w2 ⟨rfl,P⟩;have u:=T<|(z.next (Cu _ _).drew).next P;refine Q.out _ _ u λ_=>?_;clear Q P a;have a:=AE u;refine Cb 20 73 (Ah AQ) a <| CK ?_;go_simp;go_wp2;go_roundg N;exact⟨k+1,Bb,B9,u⟩;omega
  have ai:¬(k:J)<(K ps:J):=E;go_wp2;have a:(λd:X=>EB w b c (K ps+1) f (EL s ps f<|k+1) d) {wr with drawn:=wr.drawn+1}:=z.next (Cu _ _).drew
  refine Ei (S:=λd=>EB w b c (K ps+1) f (EL s ps f<|k+1) d) B6 ?_;refine Cb 0 53 (Ac (Aa b) (K ps+1)<|K ps+1) a <| Cb 1 54 (C Y k) a <| Ch 2 55 (A9 b k) Z (λd j=>BS) a <| Ch 3 56 (Ah AP) Z (λd j=>Br) a <| Cb 4 57 (Ah AP) a <| Cb 5 58 (C Y k) a <| Cb 6 59 (Ac pa (K ps) pc) a <| Cb 7 60 (C Y<|K ps) a <| Ch 8 61 (Ah AQ) Z (λd j=>Bh) a <| Cb 9 62 (Ah AQ) a <| Cb 10 63 (Ah AQ) a <| E6 11 64 a <| E6 12 65 a <| E6 13 66 a <| E6 14 67 a <| E6 15 68 a <| E6 16 69 a <| E6 17 70 a <| E6 18 71 a <| E6 19 72 a <| Cb 20 73 (Ah AQ) a <| CK ?_;go_simp;have u:=T<|z.next (Cu _ _).drew;go_wp2;go_roundg N;exact⟨k+1,Bb,B9,u⟩;omega
 have a1:(m:J)<=(K ps:J):=by grind [D]
 obtain⟨cg,fg⟩:=g.gr m E;have z:D<|EB w b c (K ps+1) f (λx=>G x||(AR (k<=x)&&AR (x<m+1)))<|AB wr ⟨c,m,Ao⟩<|Ah AP:=by have ao:=g.set m;rw[qt8 G ax.out.2]at ao;exact ao
 generalize(G m||(AR (k<=m)&&AR (m<m)))=v0 at cg;clear g;go_wp2;go_roundg g3;exact⟨m+1,Bb,⟨by grind [D],by grind [D]⟩,z⟩;omega
structure SF(w:Ap)(a:A4)(rs:AJ (AJ A1×AI×AI)):Prop where
 a0:∀i (h:i<At rs),∃b off pa pc,a=An ⟨b,off,Ao⟩/\b<Au (Av w)/\AC w ⟨b,off+i*3,Ao⟩=An (Ac pa rs[i].1.length pc)/\AC w ⟨b,off+i*3+1,Ao⟩=An (Ab Al rs[i].2.1)/\AC w ⟨b,off+i*3+2,Ao⟩=An (Ab Al rs[i].2.2)/\QM w pa rs[i].1
def SF.ac{w:X}{a:A4}(h:SF w a rs)(hb:A0 w w'):SF w' a rs :=
 ⟨λi k=>by obtain⟨b,off,l,m,j,c,d,e,f,g⟩:=h.a0 i k;exact⟨b,off,l,m,j,CQ c hb.size,Ca (hb.cell (p:=⟨b,_,Ao⟩) c) d,Ca (hb.cell (p:=⟨b,_,Ao⟩) c) e,Ca (hb.cell (p:=⟨b,_,Ao⟩) c) f,g.ac hb⟩⟩
structure Pu(w:Ap)(arr:A3)(W:Ap):Prop where
 ac:A0 w W
 h:W.heap[Au (Av w)]?=An (Aj arr 40)
theorem Pu.next{w:X}(h:Pu w arr W)(hb:A0 W W'):Pu w arr W' :=
 ⟨Cs h.ac<|CG hb h.ac.size,Ca (Co hb _ (L6.1 h.h).1) h.h⟩
theorem lN{w:X}(arr:A3)(d:J)(P:arr[2]?=H (C Y d))(rc pc:I)(N:SF w ra rs)(L:Gb w pa ps)(R:K ps<=4096)(hr:K rs<=1000)(S:∀i (h:i<K rs),rs[i].1.length<=1000):Ar As 73 #[.agg arr,G ra (K rs) rc,G pa (K ps) pc] w λe w'=>e=Ak (Af #[C Y (Dz d (rs.map DV) ps).1,C Y (Dz d (rs.map DV) ps).2])/\A0 w w':=by
 have y:=T N;have v:=T L;have ab:D<|Pu w arr<|Az w<|M arr 40:=⟨(Cu _ _).alloc (Cr _) _,Cj _⟩
 go_enter func73,ntmps73;go_wp2;generalize Az w (M arr 40)=V0 at *
 go_loopg[8] (K rs) (λg aa V=>∃i:I,aa=C Y i/\D (i+g=K rs)/\D (Pu w arr V)/\D (Dz d (rs.map DV) ps=Dz d ((rs.drop i).map DV) ps))
 grind [D];obtain⟨i,rfl,m,a,o⟩:=hrel;obtain _|g:=gk
 .have Q:¬(i:J)<(K rs:J):=AY<|AE m;have c:D<|Dz d (rs.map DV) ps=(d,1):=by have h:=AE o;rw[Ox<|AY<|AE m]at h;exact h
  have c2:=Ca (Cc a.h 2) P;go_wp2
  go_ret2
  rw[AE c];exact⟨Z,a.ac⟩
 have n:i<K rs:=AY<|AE m;have Q:(i:J)<(K rs:J):=E;have x:=S i n;obtain⟨b,off,qa,qc,rfl,l,A,B,F,W⟩:=y.a0 i n;have u:D<|Dz d (rs.map DV) ps=if O8 (rs[i].1.map DH) ps then rs[i].2 else Dz d ((rs.drop<|i+1).map DV) ps:=by have h:=AE o;rw[K6 n,I7,Dz]at h;exact h
 have j:=qpi qc pc (W.ac a.ac) (v.ac a.ac) R x;have k0:=Ca (a.ac.cell (p:=⟨b,off+i*3,Ao⟩) l) A;have q:=T B;have s:=T F;generalize rs[i]=r at *;obtain⟨sg,lb,z⟩:=r;dsimp only at j k0 u q s;cases t:O8 (sg.map DH) ps
 .rw[t]at j;have c:D<|Dz d (rs.map DV) ps=Dz d ((rs.drop<|i+1).map DV) ps:=B9
  go_wp2_with(first
   |(go_at_call 105;refine Ce j ?_;rintro e w2 ⟨rfl,k⟩;have f:=T<|a.next k))
  go_roundg g;exact⟨i+1,Bb,B9,f,c⟩;omega
 rw[t]at j;have c:D<|Dz d (rs.map DV) ps=(lb,z):=B9
 go_wp2_with(first
  |(go_at_call 105;refine Ce j ?_;rintro e w2 ⟨rfl,k⟩;have f:=T<|a.next k;have k1:=Ca (f.ac.cell (p:=⟨b,off+i*3+1,Ao⟩) l) q;have k2:=Ca (f.ac.cell (p:=⟨b,off+i*3+2,Ao⟩) l) s))
 go_quiet (fail)
 go_wp2;refine CS (FP results73 _ _ _) Z ⟨?_,Cs f.ac ⟨Z,Z,Z,Cr _,λ_ _=>rfl⟩⟩;rw[AE c];rfl
def Kt(l:A1):Aq:=Ae ⟨Aw l⟩
theorem q0a(ps:AJ AT):(ps.map (·.data.toList)).map Kt=ps.map Value.string:=by rw[Mw];apply ZM;intro p _;show Value.string ⟨Aw p.data.toList⟩=_;rw[Sm]
def q6j(s:AT)(w:Ap)(e:Ending)(w':Ap):Prop :=
 ∃a n cap,e=Ak (Af #[Ac a n cap,Ah<|Fd s.data.toList])/\A0 w w'/\(Fd s.data.toList=AP->n=At (EZ s.data.toList)/\Fq w' (Au<|Av w) 9 a ((EZ s.data.toList).map Kt))
theorem qqn{s:AT}{w:X}(hs:s.size<=100000):Ar As 143 #[.string s] w λe w'=>q6j s w e w':=by
 cases hd:(s.toList==[46])
 .have q:D<|Fd s.data.toList=((Db 47 s.data.toList).all GL&&AR (K (Db 47 s.data.toList)<=8)):=by grind [D,Fd,Lib.toList_data]
  go_enter func143,ntmps143
  go_wp2_with(first
   |(go_at_call 101;skip;refine Ce (Yw 47 47 Z hs) ?_;rintro e d ⟨ag,a,rfl,o,t,l⟩;obtain⟨g,ab,rfl,hg,ac,y⟩:=Yx o<|Ut l))
  have af:=Ut l;have R:D<|K a=K (EZ s.data.toList)/\Fq d (O<|U w) 9 (Aa g) ((EZ s.data.toList).map Kt):=by have r:EZ s.data.toList=a.map (·.data.toList):=ke8;obtain⟨pa,cp,he,W⟩:=kK o<|Cr _;grind [D,q0a]
  have ae:K a<=100001:=by have h1:=congrArg List.length l;have h2:=jk 47 s.data.toList;have V:K s.data.toList=s.size:=Fz;grind
  have B:∀p,p∈a->p.size<=4611686018427387904:=λp r=>by have:=Pk 47 s.data.toList p.data.toList B9;have V:K s.data.toList=s.size:=Fz;have h4:K p.data.toList=p.size:=Fz;omega
  have S:=T B;have L:=T y;have aa:D<|Fd s.data.toList=(a.all (λp=>GL p.data.toList)&&AR (K a<=8)):=B9;have u:=T t;clear t q l o y B
  go_loopg[5] (K a) (λgk x wr=>∃k:I,D (k+gk=K a)/\x=C Y k/\d=wr/\D (∀i (h:i<K a),i<k->GL a[i].data.toList=AP))
  grind [D];obtain⟨k,z,rfl,rfl,HL⟩:=hrel;obtain _|n:=gk
  .have v:¬(k:J)<K a:=AY<|AE z;have F:D<|Fd s.data.toList=AR ((K a:J)<=8):=by grind [D,List.getElem_of_mem]
   go_wp2
   go_ret2
   exact⟨_,_,_,by rw[AE F];rfl,u,λ_=>AE R⟩
  have v:(k:J)<K a:=AY<|AE z;have A:k<K a:=E;have W:=L.out k A;have j:=S.out a[k]<|PQ A;have Q:D<|GL a[k].data.toList=AQ->Fd s.data.toList=AQ:=λh=>by grind [D]
  have m:D (GL a[k].data.toList=AP->∀i (h:i<K a),i<k+1->GL a[i].data.toList=AP):=λh i hi ad=>by grind [D]
  generalize a[k]=p at *;have P:D<|GL p.data.toList=(G8 p.data.toList||(p.toList==[42]||(p.toList==[42,42]||p.toList==[91,93]))):=by grind [GL,Lib.toList_data]
  cases f:G8 p.data.toList
  .cases e1:(p.toList==[42])
   .cases e2:(p.toList==[42,42])
    .cases e3:(p.toList==[91,93])
     .have N:=T (Q<|by grind [D])
      go_wp2_with(first
       |(go_at_call 179;refine Ce (S9 j) ?_;rintro e d ⟨rfl,rfl⟩;rw[f]))
      go_ret2
      exact⟨_,_,_,by rw[AE N];rfl,u,λe=>by grind [D]⟩
     have c:=m.out (by grind [D]);have b:=T c
     go_wp2_with(first
      |(go_at_call 179;refine Ce (S9 j) ?_;rintro e d ⟨rfl,rfl⟩;rw[f]))
     go_roundg n;exact⟨k+1,B9,Bb,Z,b⟩;omega
    have c:=m.out (by grind [D]);have b:=T c
    go_wp2_with(first
     |(go_at_call 179;refine Ce (S9 j) ?_;rintro e d ⟨rfl,rfl⟩;rw[f]))
    go_roundg n;exact⟨k+1,B9,Bb,Z,b⟩;omega
   have c:=m.out (by grind [D]);have b:=T c
   go_wp2_with(first
    |(go_at_call 179;refine Ce (S9 j) ?_;rintro e d ⟨rfl,rfl⟩;rw[f]))
   go_roundg n;exact⟨k+1,B9,Bb,Z,b⟩;omega
  have c:=m.out (by rw[AE P,f];rfl);have b:=T c
  go_wp2_with(first
   |(go_at_call 179;refine Ce (S9 j) ?_;rintro e d ⟨rfl,rfl⟩;rw[f]))
  go_roundg n;exact⟨k+1,B9,Bb,Z,b⟩;omega
 have q:D<|Fd s.data.toList=AP:=by grind [D,Fd,Lib.toList_data]
 go_enter func143,ntmps143;go_wp2
 go_ret2
 refine⟨Ao,0,0,by rw[AE q];rfl,Cu _ _,λ_=>?_⟩;have r:EZ s.data.toList=[]:=ke8;rw[r];exact⟨Z,AF Z⟩
def q2O(n:AH)(s:AT)(w:Ap)(e:Ending)(w':Ap):Prop :=
 ∃a m cap x y,e=Ak (Af #[.agg<|Fp a m cap x y,Ah<|Dn n s.data.toList])/\A0 w w'/\(Dn n s.data.toList=AP->m=(De s.data.toList).1.length/\x=(De s.data.toList).2.1/\y=(De s.data.toList).2.2/\Fq w' (Au<|Av w) 9 a ((De s.data.toList).1.map Kt))
theorem q3d{l:A1}{p0 p1 p2:AT}(a:[p0,p1,p2].map (·.data.toList)=Db 32 l)(b:p1.size=1)(c:(48:J)<=p1[0].toNat)(d:(p1[0].toNat:J)<=57):De l=(EZ p0.data.toList,(p1[0].toNat:J)-48,F6 p2):=by have h:=YT a.symm;rw[Sm]at h;grind [Xq,Lt]
theorem qzl(f0:arr[0]?=H (C Y n))(af:arr.size=11)(s:AT)(w:X)(v:s.size<=100000):Ar As 102 #[.agg arr,.string s] w λe w'=>q2O n s w e w':=by
 have HS:=T af;have aa:=T f0;have q:D ((prog.info? 193).map (·.size)=H E3.size):=Ob;go_enter func102,ntmps102;have T1:=trivial
 go_wp2_with(first
  |(go_at_call 101;go_loud (refine Ce (Yw (s:=s) 32 32 rfl v) ?_;rintro e w2 ⟨an,ps,rfl,N,u,o⟩;obtain⟨g,ag,rfl,hg,W,V⟩:=Yx N<|Ut o;have m:=T (yh w arr<|by simp only[CL,A0]at u;exact u);clear u N hg;rcases yk (n:=n) v o V with⟨aj,d⟩|⟨h,a,c,rfl,t,y,d⟩|⟨h,a,c,rfl,t,r,y,z,d⟩|⟨h,a,c,rfl,t,r,y,z,Q,d⟩|⟨h,a,c,rfl,ak,t,ae,r,y,z,Q,ab,d⟩;all_goals(first|(have ac:D<|De s.data.toList=(EZ h.data.toList,(a[0].toNat:J)-48,F6 c):=q3d o r z Q)|skip);all_goals clear o V))
  |(refine D8 Z 193 _ _ Z (O (U w)+1) E3 Z Z 193 E3 m.a q Z Uu ?_))
 all_goals first
  |(refine CS (ID results102 (g:=(O (U w)+1)) (cs:=E3) Z (CR _ _ E3 _ _ _ m.a) underlying193 Z Ob (Ah AQ) Z) Z ⟨Ao,0,0,0,0,by rw[AE d];rfl,Dq m.ac E,λe=>by grind [D]⟩)
  |skip
 refine Ce (qqn (s:=h) ab) ?_;rintro e w3 ⟨i,j,k,rfl,A,S⟩;have B:=T S;have L:=T m.d;clear S;have f:=T<|m.a0 A;have al:=Ca (A.cell (p:=⟨g,1,Ao⟩) W) t;have am:=Ca (A.cell (p:=⟨g,2,Ao⟩) W) ae;cases P:Fd h.data.toList
 .have l:D<|Dn n s.data.toList=AQ:=by grind [D]
  clear d
  go_wp2_with(first
   |(go_at_call 144;refine Ce (Xo) ?_;rintro e b ⟨rfl,rfl⟩)
   |(refine D8 Z 193 _ _ Z (O (U w)+1) (Fp i j k ((a[0].toNat:J)-48)<|F6 c) Z Z 193 E3 f.a q Z (Pm) ?_))
  refine CS (ID results102 (cs:=(Fp i j k ((a[0].toNat:J)-48)<|F6 c)) Z (CR _ _ E3 _ _ _ f.a) underlying193 Z Ob (Ah AQ) Z) Z ⟨_,_,_,_,_,by rw[AE l],Dq f.ac E,λe=>by grind [D]⟩
 by_cases e2:F6 c=0
 .have l:D<|Dn n s.data.toList=AQ:=by grind [D]
  clear d
  go_wp2_with(first
   |(go_at_call 144;refine Ce (Xo) ?_;rintro e b ⟨rfl,rfl⟩)
   |(refine D8 Z 193 _ _ Z (O (U w)+1) (Fp i j k ((a[0].toNat:J)-48) 0) Z Z 193 E3 f.a q Z (Pm) ?_))
  refine CS (ID results102 (cs:=(Fp i j k ((a[0].toNat:J)-48) 0)) Z (CR _ _ E3 _ _ _ f.a) underlying193 Z Ob (Ah AQ) Z) Z ⟨_,_,_,_,_,by rw[AE l],Dq f.ac E,λe=>by grind [D]⟩
 have ai:(F6 c != 0)=AP:=by simp[e2]
 have l:D<|Dn n s.data.toList=Dg n ((a[0].toNat:J)-48):=by grind [D]
 clear d
 go_wp2_with(first
  |(go_at_call 144;refine Ce (Xo) ?_;rintro e b ⟨rfl,rfl⟩)
  |(go_at_call 60;refine Ce (ON aa _ _) ?_;rintro e w5 ⟨rfl,R⟩;have x:=T<|f.a0 R;have F:D<|j=K (EZ h.data.toList)/\Fq w5 (O<|U w2) 9 i ((EZ h.data.toList).map Kt):=⟨(B P).1,(B P).2.ac R⟩)
  |(refine F0 Z ?hw Z f.h underlying40 Z (DC HS) ?_;case hw=>simp[go_sem];done)
  |(refine D8 Z 193 _ _ Z (O (U w)+1) (Fp i j k ((a[0].toNat:J)-48)<|F6 c) Z Z 193 E3 x.a q Z (Pm) ?_))
 refine CS (ID results102 (cs:=(Fp i j k ((a[0].toNat:J)-48)<|F6 c)) Z (CR _ _ E3 _ _ _ x.a) underlying193 Z Ob (Ah<|Dg n<|(a[0].toNat:J)-48) Z) Z ⟨_,_,_,_,_,by rw[AE l],Dq x.ac E,λ_=>?_⟩;rw[AE ac];exact⟨F.1,Z,Z,F.2.kept λad ah fr r h3=>⟨AY<|AE L,Ca (Do _ (O (U w)+1) ad _<|AY<|AE L) h3⟩⟩
def SG(r:AJ A1×AI×AI):AJ Aq×AH×AI×AI:=(r.1.map Kt,At r.1,r.2.1,r.2.2)
def Zd(W:Ap)(lo:AH)(v:Aq)(rs:AJ<|AJ A1×AI×AI):Prop:=∃xs,W.ownsRow lo 193 3 v (At rs) xs/\Ga W lo 9 xs (rs.map SG)
def q69(n:AH)(s:AT)(w:Ap)(e:Ending)(w':Ap):Prop :=
 ∃a m cap,e=Ak (Af #[Ac a m cap,Ab Al<|E5 n s.data.toList])/\A0 w w'/\(E5 n s.data.toList<0->Zd w' (Au<|Av w) (Ac a m cap) (Ea s.data.toList))
theorem q3D{W4:X}{es:AJ<|AJ Aq×I×J×J}{rm rc:I}{rx ry:J}{p:AT}(n:W4.ownsRow base 193 3 v k xs)(q:Ga W4 lo 9 xs es)(l:rm=(De p.data.toList).1.length/\rx=(De p.data.toList).2.1/\ry=(De p.data.toList).2.2/\Fq W4 lo 9 ra ((De p.data.toList).1.map Kt))(m:(Az W4 o).grownBy w5<|Ax v):Ga w5 lo 9 (xs++[G ra rm rc,C Y rx,C Y ry])<|es++[SG<|De p.data.toList]:=by
 obtain⟨d,f,g,i⟩:=l;have h:=Ga.push (pa:=ra) (pc:=rc) q (e:=SG<|De p.data.toList) i;rw[d,f,g];refine h.kept λb t fr r c=>⟨r,?_⟩
 have j:=(L6.1 c).1;refine(m.block b kfD λe=>?_).trans<|(CB _ _ _ j).trans c;rcases n.2 with⟨a,_⟩|⟨w,s,u,a,x,y,_⟩
 .rw[a]at e;cases e
 rw[a]at e;injection e with e;grind
theorem Ze{c:CF}(hn:c.a=n){w:X}:Ar As 64 #[.agg c.ai] w λe l=>q69 n c.e w e l:=by
 have hl:K c.e.data.toList=c.e.size:=Fz;have f3:c.ai[3]?=H (.string c.e):=rfl;have au:D<|c.ai[0]?=H (C Y n):=by show _=_;rw[<-hn];rfl
 obtain⟨i0,hi,bc,bd,be⟩:=DL Tryz.infoRule;by_cases bh:(2000:J)<c.e.size
 .have A:D<|E5 n c.e.data.toList=0:=by grind [D,E5]
  go_enter func64,ntmps64;go_wp2
  go_ret2
  exact⟨_,_,_,by rw[AE A];rfl,(Cu _ _).alloc (Cr _) _,λe=>by rw[AE A]at e;omega⟩
 cases he:(c.e.toList==[])
 .have a7:c.e.size≠0:=by grind [Lib.toList_data]
  have A:D<|E5 n c.e.data.toList=JU n (Db 10 c.e.data.toList) 0:=by grind [D,E5]
  have am:c.e.size<=100000:=E;go_enter func64,ntmps64
  go_wp2_with(first
   |(go_at_call 101;skip;refine(Yw 10 10 Z am).mono ?_;rintro e u ⟨ah,m,rfl,HO,HB,HE⟩;obtain⟨g,a2,rfl,hg,a3,ak⟩:=Yx HO<|Ut HE))
  have bb:O (U w)<O (U u):=Bx;have a1:D<|A7 u (O<|U w) c.ai 40:=(HB.block _ Ba).trans<|Cj _;have ai:=T ak;have a0:D (E5 n c.e.data.toList=JU n (m.map (·.data.toList)) 0):=B9;have ad:=T<|((Cu _ _).alloc (Cr _) _).trans<|HB.mono Ba;have az:D (∀p,p∈m->p.size<=100000):=λp F=>by have:=Pk 10 c.e.data.toList p.data.toList B9;have h4:K p.data.toList=p.size:=Fz;omega
  have bi:O (U w)<g:=Bx;have aw:D<|Ea c.e.data.toList=m.map λp=>De p.data.toList:=by show _=_;unfold Ea;rw[Cl E,<-HE,Mw];rfl
  clear HB HO ak HE A hg
  go_loopg[4,6] (K m) (λgk ah aq wr=>∃(k:I) (q:AJ Aq) (ao:A4) (cv:I),D (k+gk=K m)/\ah=G ao k cv/\aq=C Y k/\D (wr.ownsRow (O<|U u) 193 3 ah k q)/\D (A0 u wr)/\D (E5 n c.e.data.toList=JU n ((m.map (·.data.toList)).drop k) k)/\D (Ga wr (O<|U u) 9 q<|(m.take k).map λp=>SG<|De p.data.toList))
  exact⟨0,[],Ao,0,Bg,Z,Z,Fi _ _ _ _,Cu _ _,a0,UP⟩;obtain⟨k,q,ao,cv,hk,rfl,rfl,av,y,HL,aj⟩:=hrel;have bk:=y.size;obtain _|gg:=gk
  .have a6:¬(k:J)<K m:=AY<|AE hk;have t:D<|E5 n c.e.data.toList = -1:=by show _=_;rw[AE HL,Ox B9];rfl
   go_wp2
   go_ret2
   refine⟨_,_,_,by rw[AE t];rfl,ad.trans<|y.mono E,λ_=>?_⟩;have a5:k=K m:=AY<|AE hk;subst a5;have h1:=AE aj;rw[LM]at h1;refine⟨q,?_,?_⟩
   .grind [D,kM]
   rw[AE aw,Mw];exact h1.kept λb af fr k1 P=>⟨E,P⟩
  have a6:(k:J)<K m:=AY<|AE hk;have a4:k<K m:=E;have L:=(y.cell (p:=⟨g,k,Ao⟩) a3).trans<|ai k a4;have x:=(y.block _ bb).trans a1;have V:O (U w)<O (U wr):=E;have ap:g<O (U wr):=E;obtain⟨p,F⟩:=IA<|m[k];have HP:=T F;rw[<-F]at L;have cR:=λW=>qzl au Z p W (by grind [D]);have HC:D (E5 n c.e.data.toList=if Dn n p.data.toList=AP/\k<16 then JU n ((m.map (·.data.toList)).drop<|k+1) (k+1)else(k:J)):=by grind [List.drop_eq_getElem_cons,JU]
  clear F hl f3 he a7 am ai az HL;go_wp2;refine Ei (S:=λW=>A7 W (O<|U w) c.ai 40/\A6 W g k (.string p)) B6 ?_;have R:(λW:X=>A7 W (O<|U w) c.ai 40/\A6 W g k (.string p)) {wr with drawn:=wr.drawn+1}:=⟨x,L⟩
  refine Ch 0 26 (.agg c.ai) Z (λW hW=>yn (.tmp 1) Z Z hW.1 underlying40 Z<|DC Z) R <| Cb 1 27 (G (Aa g) (K m) a2) R <| Cb 2 28 (C Y k) R <| Ch 3 29 (A9 g k) Z (λW hW=>Bh) R <| Ch 4 30 (.string p) Z (λW hW=>by have h2:=hW.2;go_simp) R <| Hj 5 9 (λQ j=>?ga) λQ j=>?gb
  case' ga =>
   go_simp;refine(cR _).mono ?_;rintro e l ⟨a,d,rc,f,i,rfl,B,ab⟩;simp only[];have r:D<|Dn n p.data.toList=AP->d=(De p.data.toList).1.length/\f=(De p.data.toList).2.1/\i=(De p.data.toList).2.2/\Fq l (O<|U wr) 9 a ((De p.data.toList).1.map Kt):=ab;clear ab;refine j.out _ _ ⟨(B.block _ V).trans x,(B.cell (p:=⟨g,k,Ao⟩) ap).trans L⟩ λo=>?_;clear j;refine Cb 6 25 (Af #[.agg<|Fp a d rc f i,Ah<|Dn n p.data.toList]) o <| Cb 7 32 (.agg<|Fp a d rc f i) o <| Cb 8 33 (Ah<|Dn n p.data.toList) o ?_;have an:=B.size;refine CH 9 λQ j=>?_;go_simp;refine j.out _ _ ⟨(CB _ _ _<|CQ V an).trans o.1,(Iw _ _ _<|by rw[o.2];rfl).trans o.2⟩ λac=>?_;clear j;refine CH 10 λQ j=>?_;rw[Cp keJ];refine Je 193 _ _ Z (O<|U l) (Fp a d rc f i) Z Z 193 E3 (Cj l) Ob Z (Pm) ?_;rw[Gd];refine j.out _ _ ⟨(CB _ _ _<|CQ V an).trans o.1,(Iw _ _ _<|by rw[o.2];rfl).trans o.2⟩ λag=>?_;clear j;refine Cb 11 8 (Ah<|Dn n p.data.toList) ag <| CK ?_;have s:D<|Uw u wr (O<|U l) (Fp a d rc f i)<|Az l<|M (Fp a d rc f i) 193:=yl y B;have z:D<|Dn n p.data.toList=AP->d=(De p.data.toList).1.length/\f=(De p.data.toList).2.1/\i=(De p.data.toList).2.2/\Fq (Az l<|M (Fp a d rc f i) 193) (O<|U wr) 9 a ((De p.data.toList).1.map Kt):=λh=>⟨(r h).1,(r h).2.1,(r h).2.2.1,(r h).2.2.2.ac<|(Cu _ _).alloc (Cr _) _⟩
   clear r;generalize Az l (M (Fp a d rc f i) 193)=W4 at *;generalize O (U l)=N at *
  case' gb =>
   go_simp;refine j.out _ _ ⟨(CB _ _ _ V).trans x,(Iw _ _ _<|by rw[L];rfl).trans L⟩ λo=>?_;clear j;refine CH 5 λQ j=>?_;go_simp;refine(cR _).mono ?_;rintro e l ⟨a,d,rc,f,i,rfl,B,ab⟩;simp only[];have r:D<|Dn n p.data.toList=AP->d=(De p.data.toList).1.length/\f=(De p.data.toList).2.1/\i=(De p.data.toList).2.2/\Fq l (O (U wr)+1) 9 a ((De p.data.toList).1.map Kt):=by grind [D,World.size_alloc,World.drew]
   clear ab;have aa:Below (O (U wr)+1) (Az wr<|M E3 193).drew l:=by have:=B;simp only[CL,World.drew,A0]at this;exact this
   refine j.out _ _ ⟨(aa.block _ E).trans o.1,(aa.cell (p:=⟨g,k,Ao⟩)<|show g<_ by omega).trans o.2⟩ λac=>?_;clear j;refine Cb 6 25 (Af #[.agg<|Fp a d rc f i,Ah<|Dn n p.data.toList]) ac <| Cb 7 32 (.agg<|Fp a d rc f i) ac <| Cb 8 33 (Ah<|Dn n p.data.toList) ac <| CH 10 λQ j=>?_;rw[Cp keJ];refine Je 193 _ _ Z (O<|U wr) (Fp a d rc f i) Z Z 193 E3 ((aa.block _ E).trans<|Cj wr) Ob Z (Pm) ?_;have s:D<|Uw u wr (O<|U wr) (Fp a d rc f i)<|AD l (O<|U wr)<|Fp a d rc f i:=ym y aa;refine j.out _ _ ⟨(s.same _ V).trans x,(Jd (w:=wr)<|s.same g ap).trans L⟩ λag=>?_;clear j;refine Cb 11 8 (Ah<|Dn n p.data.toList) ag <| CK ?_;have z:D<|Dn n p.data.toList=AP->d=(De p.data.toList).1.length/\f=(De p.data.toList).2.1/\i=(De p.data.toList).2.2/\Fq (AD l (O<|U wr)<|Fp a d rc f i) (O<|U wr) 9 a ((De p.data.toList).1.map Kt):=λh=>⟨(r h).1,(r h).2.1,(r h).2.2.1,(r h).2.2.2.kept λb af fr h1 h3=>⟨E,(Do _ (O<|U wr) b _ E).trans h3⟩⟩
   clear r;generalize AD l (O<|U wr) (Fp a d rc f i)=W4 at *
  all_goals
   cases e1:Dn n p.data.toList
   .have t:D<|E5 n c.e.data.toList=k:=B9;go_wp2
    go_ret2
    exact⟨_,_,_,by rw[AE t];rfl,ad.trans<|s.ac.mono E,λe=>by rw[AE t]at e;omega⟩
   by_cases bg:(16:J)<=k
   .have t:D<|E5 n c.e.data.toList=k:=B9;go_wp2
    go_ret2
    exact⟨_,_,_,by rw[AE t];rfl,ad.trans<|s.ac.mono E,λe=>by rw[AE t]at e;omega⟩
   have t:D (E5 n c.e.data.toList=JU n ((m.map (·.data.toList)).drop<|k+1) (k+1)):=B9;have ae:=T<|jm av s.same;have a9:=s.ac.size;have ay:=T<|aj.kept λb af fr k1 P=>⟨k1,(s.same b (L6.1 P).1).trans P⟩;have ar:D<|d=(De p.data.toList).1.length/\f=(De p.data.toList).2.1/\i=(De p.data.toList).2.2/\Fq W4 (O<|U u) 9 a ((De p.data.toList).1.map Kt):=⟨(z e1).1,(z e1).2.1,(z e1).2.2.1,(z e1).2.2.2.kept λb af fr k1 P=>⟨E,P⟩⟩
   clear z;have ax:D<|_=H (Obj.cells #[G a d rc,C Y f,C Y i] 193):=s.aq
   go_wp2_with(first
    |(refine CO Z 193 _ Z _ Z _ _ _ _ ax underlying193 Z Ob ?_)
    |(at_builtin;refine K7 _ Z _ _ 138 Z (O<|U u) 193 i0 (.agg E3) 3 40 underlying138 hi bc bd be Z B8 _ _ _ Z (ae.alloc _) ⟨O<|U W4,0,Ao⟩ 1 1 [G a d rc,C Y f,C Y i] Z Z (EU) (λaq hx=>kew) Bc E B7 ?_;intro v' w5 a8 al bj))
   go_roundg gg
   .obtain⟨g3,v,ba⟩:∃g3 v,v'=G (Aa g3) (k+1) v:=by rcases a8.2 with⟨_,h⟩|⟨g3,v,_,h,_⟩<;>grind
    exact⟨k+1,q++[AX a d rc,Value.int Y f,Value.int Y i],Aa g3,v,B9,ba,Bb,(by grind [D]),(s.ac.alloc a9 _).grown al B7 λbf hq=>(ae.lt bf hq).1,t,by have h:=q3D (rc:=rc) ae ay ar al;grind [D,List.take_succ_eq_append_getElem]⟩
   omega
 have A:D<|E5 n c.e.data.toList = -1:=by grind [D,Lib.toList_data,E5]
 go_enter func64,ntmps64;go_wp2
 go_ret2
 refine⟨Ao,0,0,by rw[AE A];rfl,(Cu _ _).alloc (Cr _) _,λ_=>?_⟩;have F:Ea c.e.data.toList=[]:=by grind [Lib.toList_data,Ea]
 rw[F];exact⟨[],Fi _ _ _ _,UP⟩
def q2y{c:CF}(f:c.a=n)(w:X):Ar As 64 #[.agg c.ai] w λe g=>∃a m b,e=Ak (Af #[G a m b,C Y<|E5 n c.e.data.toList])/\A0 w g :=
 (Ze f).mono λ_ _ ⟨a,m,b,h,d,_⟩=>⟨a,m,b,h,d⟩
theorem qw7(i o d b:J):(EJ i o d b=AQ/\DU i=AQ)\/(EJ i o d b=AQ/\DU i=AP/\DU o=AQ)\/(EJ i o d b=AQ/\DU i=AP/\DU o=AP/\d<1)\/(EJ i o d b=AQ/\DU i=AP/\DU o=AP/\1<=d/\16<d) \/
  (EJ i o d b=AQ/\DU i=AP/\DU o=AP/\1<=d/\d<=16/\b<1)\/(EJ i o d b=AQ/\DU i=AP/\DU o=AP/\1<=d/\d<=16/\1<=b/\4096<b)\/(EJ i o d b=AP/\DU i=AP/\DU o=AP/\1<=d/\d<=16/\1<=b/\b<=4096):=by
 grind [EJ]
def Vf:bo 27 CW E9:=by
 intro c w x hg;have y:=T x;have ah:D<|K c.B<=maxLen:=by have:=x.bb;show _<=_;unfold maxLen;omega
 have P:=T c.size;have b:=T<|Pq w c;have s:=qzn<|b.ai x;clear x hg;cases o:F9 c.a c.L
 focus
  have d:Mf c=AQ:=by unfold Mf;rw[o];rfl
  have f:D<|CW c=1:=by show _=_;unfold CW;simp[d]
  have i:D<|E9 c=0:=by show _=_;unfold E9;rw[AE f];rfl
  rw[o]at s;clear o d
 rotate_left
 rw[o]at s;obtain⟨A,F⟩:=Pr o;have N:=T F;have aj:=T A.symm;have ai:D<|c.ai[0]?=H (C Y (c.a.toNat:I)):=by show _=_;rw[A];rfl
 have S:=λal ak=>ON ai al ak;have d:Mf c=(Dg c.a.toNat c.c&&Dg c.a.toNat c.d):=by unfold Mf;rw[o];rfl
 clear o A F;cases j:Dg c.a.toNat c.c
 focus
  have f:D<|CW c=1:=by show _=_;unfold CW;simp[d,j]
  have i:D<|E9 c=0:=by show _=_;unfold E9;rw[AE f];rfl
  clear d
 rotate_left
 cases k:Dg c.a.toNat c.d
 focus
  have f:D<|CW c=1:=by show _=_;unfold CW;simp[d,j,k]
  have i:D<|E9 c=0:=by show _=_;unfold E9;rw[AE f];rfl
  clear d
 rotate_left
 cases l:Nd c.a.toNat (DZ c.a.toNat c.L)
 focus
  have f:D<|CW c=2:=by show _=_;unfold CW;simp[d,j,k,l]
  have i:D<|E9 c=0:=by show _=_;unfold E9;rw[AE f];rfl
  clear d
 rotate_left
 cases m:Nf c.a.toNat (DZ c.a.toNat c.L)
 focus
  have f:D<|CW c=3:=by show _=_;unfold CW;simp[d,j,k,l,m]
  have i:D<|E9 c=0:=by show _=_;unfold E9;rw[AE f];rfl
  clear d
 rotate_left
 rcases qw7 c.f c.out c.b c.bytes with⟨g,p⟩|⟨g,p,q⟩|⟨g,p,q,t⟩|⟨g,p,q,t,z⟩|⟨g,p,q,t,z,R⟩|⟨g,p,q,t,z,R,b2⟩|⟨g,p,q,t,z,R,b2⟩
 focus
  have f:D<|CW c=4:=Bq;have i:D<|E9 c=0:=by show _=_;unfold E9;rw[AE f];rfl
  clear d g
 rotate_left
 focus
  have f:D<|CW c=4:=Bq;have i:D<|E9 c=0:=by show _=_;unfold E9;rw[AE f];rfl
  clear d g
 rotate_left
 focus
  have f:D<|CW c=4:=Bq;have i:D<|E9 c=0:=by show _=_;unfold E9;rw[AE f];rfl
  clear d g
 rotate_left
 focus
  have f:D<|CW c=4:=Bq;have i:D<|E9 c=0:=by show _=_;unfold E9;rw[AE f];rfl
  clear d g
 rotate_left
 focus
  have f:D<|CW c=4:=Bq;have i:D<|E9 c=0:=by show _=_;unfold E9;rw[AE f];rfl
  clear d g
 rotate_left
 focus
  have f:D<|CW c=4:=Bq;have i:D<|E9 c=0:=by show _=_;unfold E9;rw[AE f];rfl
  clear d g
 rotate_left
 cases u:IE c.B
 focus
  have f:D<|CW c=5:=by show _=_;unfold CW;simp[d,j,k,l,m,g,u]
  have i:D<|E9 c=0:=by show _=_;unfold E9;rw[AE f];rfl
  clear d
 rotate_left
 by_cases v:0<=E5 c.a.toNat c.e.data.toList
 focus
  have f:D<|CW c=6:=ke6;obtain⟨V,n⟩:=DF<|E5 c.a.toNat c.e.data.toList;have Q:=T n;have i:D<|E9 c=V:=by show _=_;unfold E9;rw[AE f,Cp rfl];exact n
  rw[n]at v;clear d g n
 rotate_left
 have f:D<|CW c=0:=ke6;obtain⟨V,n⟩:=DF<|E5 c.a.toNat c.e.data.toList;have Q:=T n;have i:D<|E9 c=0:=by show _=_;unfold E9;rw[AE f];rfl
 rw[n]at v;clear d g n
 all_goals
  go_enter func27,ntmps27;have T1:True:=trivial;have T2:True:=trivial;have T3:True:=trivial;have T4:True:=trivial
  go_wp2_with(first
   |(refine CO Z 40 _ Z _ Z _ _ _ _ b.h underlying40 Z (DC P) ?_)
   |(refine F0 Z ?hw Z b.h underlying40 Z (DC P) ?_;case hw=>simp[go_sem];done)
   |(go_at_call 59;refine Ce s ?_;clear s;rintro e w2 ⟨rfl,ab⟩;have h:=T<|b.a0 ab;clear b;have b:=h;clear h ab;have k2:A6 w2 (O<|U w) 2<|C Y c.c:=b.cell 2)
   |(go_at_call 60;clear T1;refine Ce (S c.c _) ?_;clear k2;rintro e w3 ⟨rfl,ac⟩;rw[j];have h:=T<|b.a0 ac;clear b;have b:=h;clear h ac;have k4:A6 w3 (O<|U w) 4<|C Y c.d:=b.cell 4)
   |(go_at_call 60;clear T2;refine Ce (S c.d _) ?_;clear k4;rintro e w4 ⟨rfl,ad⟩;rw[k];have h:=T<|b.a0 ad;clear b;have b:=h;clear h ad;have W:=qpf N (b.ai y).a)
   |(go_at_call 61;refine Ce W ?_;clear W;rintro e w5 ⟨rfl,ae⟩;rw[l];have h:=T<|b.a0 ae;clear b;have b:=h;clear h ae;have cT:=qq2 N (b.ai y).a)
   |(go_at_call 62;refine Ce cT ?_;clear cT;rintro e r ⟨rfl,af⟩;rw[m];have h:=T<|b.a0 af;clear b;have b:=h;clear h af;have k6:A6 r (O<|U w) 6<|C Y c.f:=b.cell 6;have k7:A6 r (O<|U w) 7<|C Y c.out:=b.cell 7;have k8:A6 r (O<|U w) 8<|C Y c.b:=b.cell 8;have k9:A6 r (O<|U w) 9<|C Y c.bytes:=b.cell 9;have am:A6 r (O<|U w) 10<|G c.i (K c.B) c.g:=b.cell 10;have a:=og c.g ah (b.ai y).b)
   |(go_at_call 45;clear T3;refine Ce (UO c.f) ?_;rintro e w7 ⟨rfl,rfl⟩;rw[p])
   |(go_at_call 45;clear T4;refine Ce (UO c.out) ?_;rintro e w8 ⟨rfl,rfl⟩;rw[q])
   |(go_at_call 63;refine Ce a ?_;clear a k6 k7 k8 k9 am;rintro e w9 ⟨rfl,ag⟩;rw[u];have h:=T<|b.a0 ag;clear b;have b:=h;clear h ag;have cU:=q2y aj w9)
   |(go_at_call 64;refine Ce cU ?_;clear cU;rintro e an ⟨ua,um,uc,rfl,aa⟩;rw[AE Q];have h:=T<|b.a0 aa;clear b;have b:=h;clear h aa))
  go_ret2
  exact⟨by rw[AE f,AE i];rfl,b.ac⟩
def LE(c:CF)(a b:AI):AI:=if¬CW c=0 then CW c else if(Dg c.a.toNat a&&Dg c.a.toNat b)=AQ then 7 else 0
def LF(c:CF)(a b:AI):AK:=if¬CW c=0 then AQ else if(Dg c.a.toNat a&&Dg c.a.toNat b)=AQ then AQ else DZ c.a.toNat c.L a.toNat b.toNat
def qtR:bB LE:=λ_ _ _ _=>rfl
def qti:bB LF:=λ_ _ _ _=>rfl
theorem Zf{c:CF}(h:CW c=0):F9 c.a c.L=AP:=by grind [Mf,CW]
theorem Vg(h:Dg n a=AP):a=(a.toNat:I)/\a.toNat<n:=by grind [Dg]
theorem lO{c:CF}(h:¬CW c=0)(a b:J):LF c a b=AQ/\LE c a b=CW c:=by grind [LE,LF]
def Vh{c:CF}(h:CW c=0){b:J}(e:Dg c.a.toNat a=AQ\/Dg c.a.toNat b=AQ):LF c a b=AQ/\LE c a b=7:=by rcases e with d|d<;>simp[LE,LF,h,d]
def lP{c:CF}(h:CW c=0){b:J}(d:Dg c.a.toNat a=AP)(e:Dg c.a.toNat b=AP):LF c a b=DZ c.a.toNat c.L a.toNat b.toNat/\LE c a b=0:=by simp[LE,LF,h,d,e]
def qtc:bz 31 LF LE:=by
 intro c a b w t P;have V:=T t;have k:=T c.size;have h:=T<|Pq w c;have x:=Vf c _ (h.ai t)<|P.ac h.ac;obtain⟨ad,g⟩:=CC<|LF c a b;obtain⟨ac,f⟩:=CC<|LE c a b;rw[AE g,AE f];go_enter func31,ntmps31
 go_wp2_with(first
  |(refine CO Z 40 _ Z _ Z _ _ _ _ h.h underlying40 Z (DC k) ?_)
  |fail)
 refine Ce x ?_;clear x t P;rintro e w2 ⟨rfl,B⟩;have l:=T<|h.a0 B;clear h B;by_cases i:CW c=0
 .obtain⟨Q,u⟩:=Pr<|Zf i;have j:=T u;have p:=T i;have v:c.ai[0]?=H (C Y (c.a.toNat:I)):=by rw[Q];rfl
  have q:=λa aa=>ON v a aa;rw[i];clear i Q u v
  go_wp2_with(first
   |(refine CO Z 40 _ Z _ Z _ _ _ _ l.h underlying40 Z (DC k) ?_)
   |fail)
  refine Ce (q a _) ?_;rintro e w3 ⟨rfl,F⟩;have m:=T<|l.a0 F;clear F l;cases r:Dg c.a.toNat a
  .have d:=T<|Vh p (b:=b)<|AF r;go_wp2
   go_ret2
   exact⟨by rw[<-AE f,<-AE g,d.1,d.2];rfl,m.ac⟩
  go_wp2_with(first
   |(refine F0 Z ?hw Z m.h underlying40 Z (DC k) ?_;case hw=>simp[go_sem];done)
   |fail)
  refine Ce (q b _) ?_;rintro e w4 ⟨rfl,L⟩;have o:=T<|m.a0 L;clear L m;cases s:Dg c.a.toNat b
  .have d:=T<|Vh p (a:=a)<|AG s;go_wp2
   go_ret2
   exact⟨by rw[<-AE f,<-AE g,d.1,d.2];rfl,o.ac⟩
  have d:=T<|lP p r s;obtain⟨z,R⟩:=Vg r;obtain⟨A,S⟩:=Vg s;have y:=Wt (arr:=c.ai) (n:=c.a.toNat) j.ai j.f j.hL j.a (b:=b.toNat) R S (o.ai V).a;rw[<-z,<-A]at y;clear z R A S q
  go_wp2_with(first
   |(refine CO Z 40 _ Z _ Z _ _ _ _ o.h underlying40 Z (DC k) ?_)
   |(go_at_call 69;refine Ce y ?_;rintro e w5 ⟨rfl,ab⟩;have W:=T<|o.a0 ab))
  go_ret2
  exact⟨by rw[<-AE f,<-AE g,d.1,d.2];rfl,W.ac⟩
 have d:=T<|lO i a b;generalize CW c=E0 at *;generalize E9 c=N at *;go_wp2
 go_ret2
 exact⟨by rw[<-AE f,<-AE g,d.1,d.2];rfl,l.ac⟩
theorem qiX{P:Program}{w:X}{g:I}{t ty:AN}{O:A3}{v:Aq}{fr:I×I}{d:TypeDesc}(e:w.heap[g]?=H (M (O.push v) t fr))(h:P.underlying ty=H d)(k:(match d with|.struct _|.array _ _=>AP|_=>AQ)=AP)(hi:(P.info? ty).map (·.size)=H O.size):(loadVar ty ⟨g,0,Ao⟩).run P w=.ok (.agg O) w:=by
 have a:=VO (P:=P) w ⟨g,0,Ao⟩ O.toList (λj u l=>by
   have b:(⟨g,0,Ao⟩:Addr).add j=⟨g,j,Ao⟩:=by unfold Addr.add;split<;>simp_all
   rw[b,Iy w g j (O.push v) t fr e];grind)
 rcases hq:P.info? ty with _|i
 .simp[hq]at hi
 have f:i.size=O.size:=by simpa[hq]using hi
 have c:(isAgg ty).run P w=.ok AP w:=by unfold isAgg;rw[GT,Mu h w];cases d<;>simp_all
 simp only[Fz,VL]at a;simp[loadVar,GT,c,sizeOf,typeInfo,hq,f,a]
def Zg{P:Program}{ops:Array Oper}{rest:AJ Oper}{o:Oper}{a:Act}{w:X}{Q:Exit->Act->X->Prop}(b:AN){x:Operand}{t:AN}{O:A3}{v:Aq}{fr:I×I}{d:TypeDesc}{g:I}(f:w.heap[g]?=H (M (O.push v) t fr))(k:P.underlying b=H d)(hi:(P.info? b).map (·.size)=H O.size)(h:wpList P ops Q rest (a.put o.dst<|.agg O) w)(e:(match d with|.struct _|.array _ _=>AP|_=>AQ)=AP:=by rfl)(j:o.op=.load b x:=by rfl)(i:Region.wanted o (yielded ops a.tmps)=AP:=by simp[go_sem];done)(hx:a.eval x=A8 g:=by rfl):wpList P ops Q (o::rest) a w :=
 Wi λl c=>by rw[Cp i];unfold Oper.wp execOp;simp only[j,hx,Instr.loadAt,Instr.sureAddr,GT,Ge,FZ,qiX f k e hi];exact c _ _ h
theorem q4I:bo 29 CW E9:=by
 intro c w m n;have i:=T c.size;have a:=T<|Pq w c;have k:=UR (a.ai m)<|n.ac a.ac;have f:=T<|QI c;go_enter func29,ntmps29
 go_wp2_with(first
  |(refine CO Z 40 _ Z _ Z _ _ _ _ a.h underlying40 Z (DC i) ?_)
  |fail)
 refine Ce k ?_;rintro e b ⟨A,rfl,h,l⟩;rw[f.1,f.2];have d:=T h;have j:D<|EY.size=A.size:=by grind [Oe,h.1]
 have g:=T<|a.a0 l
 go_wp2_with(first
  |(refine Nh Z Z Z (O<|U b) Z ?_)
  |(refine D8 Z 126 _ _ Z (O<|U b) A Z Z 126 EY (Cj b) (KW d.1) j d.2.1 ?_;rw[Gd]))
 go_ret2
 exact⟨Z,g.ac.alloc g.ac.size _⟩
theorem q8F:bz 30 LF LE:=by
 intro c a b w hc hg;have HS:=T c.size;have i:=T<|Pq w c;have S:=UR (i.ai hc)<|hg.ac i.ac;have t:=T<|QI c;obtain⟨aj,h⟩:=CC<|LF c a b;obtain⟨ai,g⟩:=CC<|LE c a b;rw[AE h,AE g];go_enter func30,ntmps30
 go_wp2_with(first
  |(refine CO Z 40 _ Z _ Z _ _ _ _ i.h underlying40 Z (DC HS) ?_)
  |fail)
 refine Ce S ?_;clear S hc hg;rintro e f ⟨A,rfl,n,aa⟩;rw[t.1,t.2];have B:=T n.1;have F:=T n.2.1;have P:D<|EY.size=A.size:=by grind [Oe]
 have j:=T<|i.a0 aa;have l:D<|QK w c (Au<|U f) A<|Az f<|M A 126:=⟨j.ac.alloc j.ac.size _,Ca (CB _ _ _<|Cd j.h) j.h,Cj _⟩
 have o:=n.2.2;rw[t.1]at o;clear n aa i j;by_cases k:CW c=0
 .obtain⟨ad,sa,sk,sc,rfl,_⟩:=o k;obtain⟨hn,p⟩:=Pr ad;have ag:=T p.f;have af:=T p.a;have q:=T k;unfold J9 at *;have s:=T<|DM<|@Dc c.a.toNat<|DY c.a.toNat c.L;have u:=λa W=>OM (Hk c.a.toNat<|DY c.a.toNat c.L).aq a W;have Q:=λa b ha hb W=>aN (Hk c.a.toNat<|DY c.a.toNat c.L) ag (a:=a) (b:=b) ha hb W;rw[k];clear k o hn p ad;generalize Dp c.a.toNat (DY c.a.toNat c.L)=O at *
  go_wp2_with(first
   |(refine Nh Z Z Z (Au<|U f) Z ?_)
   |(refine D8 Z 126 _ _ Z (Au<|U f) (O.push<|G sa sk sc) Z Z 126 EY (Cj f) (KW B) P F ?_;rw[Gd])
   |(refine Zg 123 l.aq underlying123 s ?_)
   |fail)
  refine Ce (u a _) ?_;rintro e w3 ⟨rfl,ab⟩;have m:=T<|l.a0 ab;clear ab l;cases v:Dg c.a.toNat a
  .have d:=T<|Vh q (b:=b)<|AF v;go_wp2
   go_ret2
   exact⟨by rw[<-AE g,<-AE h,d.1,d.2];rfl,m.ac⟩
  go_wp2_with(first
   |(refine Zg 123 m.aq underlying123 s ?_)
   |fail)
  refine Ce (u b _) ?_;rintro e w4 ⟨rfl,ac⟩;have r:=T<|m.a0 ac;clear ac m;cases x:Dg c.a.toNat b
  .have d:=T<|Vh q (a:=a)<|AG x;go_wp2
   go_ret2
   exact⟨by rw[<-AE g,<-AE h,d.1,d.2];rfl,r.ac⟩
  have d:=T<|lP q v x;obtain⟨V,y⟩:=Vg v;obtain⟨eb,z⟩:=Vg x;have R:=Q a.toNat b.toNat y z;rw[<-V,<-eb,YN af y z]at R;clear V y eb z Q u
  go_wp2_with(first
   |(refine Zg 123 r.aq underlying123 s ?_)
   |(go_at_call 68;refine Ce (R _) ?_;rintro e w5 ⟨rfl,ah⟩;have ae:=T<|r.a0 ah))
  go_ret2
  exact⟨by rw[<-AE g,<-AE h,d.1,d.2];rfl,ae.ac⟩
 have d:=T<|lO k a b;clear o;generalize CW c=E0 at *;generalize E9 c=N at *
 go_wp2_with(first
  |(refine Nh Z Z Z (Au<|U f) Z ?_)
  |(refine D8 Z 126 _ _ Z (Au<|U f) A Z Z 126 EY (Cj f) (KW B) P F ?_;rw[Gd]))
 go_ret2
 exact⟨by rw[<-AE g,<-AE h,d.1,d.2];rfl,l.ac⟩
def FY(L:AJ<|A1×AK):AJ Aq:=L.flatMap λe=>[Ae ⟨Aw e.1⟩,Ah e.2]
def Gc(L:AJ<|A1×AK):A3:=Aw<|FY L
theorem QN(L:AJ<|A1×AK):K (FY L)=K L*2:=by induction L<;>grind [FY]
theorem Vi(L:AJ<|A1×AK):(Gc L).size=K L*2:=by simp[Gc,QN]
theorem Vj:∀(L:AJ<|A1×AK) (i:I) (h:i<K L),(FY L)[i*2]?=H (Ae ⟨L[i].1.toArray⟩)/\(FY L)[i*2+1]?=H (Ah L[i].2)
 |[],i,h=>BB
 |e::L,0,_=>⟨rfl,rfl⟩
 |e::L,i+1,h=>by have a:=Vj L i Bu;grind [FY]
theorem Pv(h:i<K L):(Gc L)[i*2]?=H (Ae ⟨L[i].1.toArray⟩)/\(Gc L)[i*2+1]?=H (Ah L[i].2):=by grind [Gc,Vj]
theorem qui{x:A1}{y:AK}(h:i<K L):Ay (Ay (Gc L) (i*2)<|Ae ⟨Aw x⟩) (i*2+1) (Ah y)=Gc (L.set i (x,y)):=by
 apply OB;intro k;rw[PJ,PJ];simp only[VC,Vi];have key:k=(k/2)*2\/k=(k/2)*2+1:=E;by_cases a:k/2<K L
 .have b:=Pv a;have c:=Pv (L:=(L.set i (x,y))) Bl;grind
 grind [Vi]
theorem qpv(n:I):madeCells #[.string ByteArray.empty,Ah AQ] (n*2)=Gc (AV n ([],AQ)):=by
 apply OB;intro k;by_cases b:k<n*2
 .have g:=Pv (L:=(AV n (([],AQ):A1×AK))) (i:=(k/2)) B7;simp only[List.getElem_replicate]at g;have key:k=(k/2)*2\/k=(k/2)*2+1:=E;have e:(madeCells #[Value.string ByteArray.empty,Ah AQ]<|n*2)[k]?=H (#[Value.string ByteArray.empty,Ah AQ][k%2]!):=by grind [madeCells]
  rw[e];rcases key with a|a
  .rw[show k%2=0 by omega,a,g.1];rfl
  grind
 grind [size_madeCells,Vi]
theorem lQ(A B:AJ<|A1×AK):FY (A++B)=FY A++FY B:=by simp[FY]
def Zh:∀v,v∈FY L->v.oneCell'=AP:=by intro v b;simp only[FY,az]at b;obtain⟨e,_,a⟩:=b;simp only[Iz,Ms,Mx]at a;rcases a with rfl|rfl<;>rfl
def SH:A1:=[98,101,121,111,110,100]
def GQ(k:AH):AJ<|A1×AK:=AV k (SH,AQ)++AV (8-k) ([],AQ)
theorem qsP:GQ 0=AV 8 ([],AQ):=rfl
theorem lR(k:I)(h:k<=8):K (GQ k)=8:=by simp[GQ];omega
def qxf(h:k<8):(GQ k).set k (SH,AQ)=GQ (k+1):=by have:k=0\/k=1\/k=2\/k=3\/k=4\/k=5\/k=6\/k=7:=E;rcases this with rfl|rfl|rfl|rfl|rfl|rfl|rfl|rfl<;>rfl
def qxP(h:(n+8)*24<=281474976710656)(w:X):(Instr.makeSlice 32 (C Y<|(n:J)+8)<|C Y<|(n:J)+8).run As w=.ok (G (Aa<|O<|U w) (n+8)<|n+8) (Az w<|M (Gc<|AV (n+8) ([],AQ)) 146):=by obtain⟨i,c,a⟩:=Ov.1 (show(prog.info? 146).map (λi=>(i.zero,i.size,i.bytes))=H (H<|Ag #[.string ByteArray.empty,Ah AQ],2,24) by kernel_rfl);simp only[LO]at a;obtain⟨f,d,b⟩:=a;have:=T8 (P:=As) w 32 146 i _ underlying32 c f Y Y ((n:J)+8) ((n:J)+8) E (OH _) kfN E;rw[this,d];have e:((n:J)+8).toNat=n+8:=E;rw[e];show Result.ok _ (Az w<|M (madeCells #[.string ByteArray.empty,Ah AQ]<|(n+8)*2) _)=_;rw[qpv]
theorem lS{ea:A4}(h:Gb W ea L):∀a,ea=H a->∀j v,(FY L)[j]?=H v->AC W (a.add j)=H v:=by intro a d j v e;have f:=(Nt.1 e).1;rw[QN]at f;obtain⟨b,off,c,_,i,k⟩:=h.a0 (j/2) E;rw[d]at c;cases c;rw[JA];have g:=Vj L (j/2) E;grind
theorem qq0(L:AJ<|A1×AK):Aw (FY L++(Gc<|AV (K L+8) ([],AQ)).toList.drop (K<|FY L))=Gc (L++GQ 0):=by
 have e:AV (K L+8) (([],AQ):A1×AK)=AV (K L) ([],AQ)++AV 8 ([],AQ):=by rw[VA]
 grind [Gc,lQ,qsP,QN]
structure Pw(w:Ap)(E:AJ (A1×AK))(W:Ap):Prop where
 ac:A0 w W
 e:W.heap[Au (Av w)]?=An (Aj (Gc E) 146)
def Pw.set{w:X}{E:AJ<|A1×AK}(h:Pw w E W)(i:I)(x:A1)(y:AK)(hi:i<K E):Pw w (E.set i (x,y)) (AB (AB W ⟨O<|U w,i*2,Ao⟩<|Ae ⟨Aw x⟩) ⟨O<|U w,i*2+1,Ao⟩<|Ah y) :=
 ⟨(h.ac.setCell (Cr _) _).setCell (Cr _) _,by rw[DX _ _ _ _ _ _<|DX _ _ _ _ _ _ h.e,qui hi]⟩
def qmq(w:X):Ar As 32 #[G Ao 0 0] w λe a=>e=Ak (G Ao 0 0)/\a=w:=by have b:=λw=>Mn (P:=As) w 32 146 Ao 0 0 0 0 underlying32;go_enter func32,ntmps32;go_wp2;go_ret;exact⟨Z,Z⟩
theorem qlJ{w:X}(pc:I)(l:Gb w (H ad) ps)(hb:(K ps+8)*24<=281474976710656):Ar As 32 #[G (H ad) (K ps) pc] w λe t=>e=Ak (G (Aa<|O<|U w) (K ps)<|K ps+8)/\Pw w (ps++GQ 8) t:=by
 have i:D<|Gb (Az w<|M (Gc<|AV (K ps+8) ([],AQ)) 146) (H ad) ps:=l.ac<|(Cu _ _).alloc (Cr _) _;have s:=qxP hb;have B:=λw=>Mn (P:=As) w 32 146 (H ad) (K ps) pc 0 0 underlying32;have f:D<|(Az w<|M (Gc<|AV (K ps+8) ([],AQ)) 146).heap[O<|U w]?=H (M (Gc<|AV (K ps+8) ([],AQ)) 146):=Cj _;have d:D<|(Az w<|M (Gc<|AV (K ps+8) ([],AQ)) 146).setRow (O<|U w) (Aw<|FY ps++(Gc<|AV (K ps+8) ([],AQ)).toList.drop (K<|FY ps))=Az w (M (Gc<|ps++GQ 0) 146):=by grind [D,qq0,World.setRow_alloc_new]
 have q:D<|Pw w (ps++GQ 0)<|Az w<|M (Gc<|ps++GQ 0) 146:=⟨(Cu _ _).alloc (Cr _) _,Cj _⟩
 clear l;go_enter func32,ntmps32
 go_wp2_with(first
  |(refine Wv 32 Z Z underlying32 2 B6 (K ps+8) (K ps+8) (K ps) pc Z Z f.out ?hn ?h1 (lS i) ?h2 (Zh) ?_;(case hn=>grind [QN]);(case h1=>(intro r;cases r));(case h2=>grind [QN,Vi]);rw[AE d]))
 clear s f d i;generalize Az w (M (Gc<|ps++GQ 0) 146)=W0 at *
 go_loopg[5] 8 (λg x wr=>∃k:I,D (k+g=8)/\x=C Y ((K ps:J)+(k:J))/\D (Pw w (ps++GQ k) wr))
 grind [D];clear q;obtain⟨k,m,rfl,a⟩:=hrel;obtain _|g:=gk
 .have c:k=8:=AY<|AE m;subst c;go_wp2;go_ret;exact⟨Z,a⟩
 have c:k<8:=AY<|AE m;have A:(K ps:J)+(k:J)<(K ps:J)+8:=E;have b:K ps+k<K (ps++GQ k):=by grind [lR]
 obtain⟨n,v⟩:∃n,A6 wr (O<|U w) ((K ps+k)*2) n:=⟨_,Ca (Cc a.e _) (Pv b).1⟩
 obtain⟨o,y⟩:∃o,A6 wr (O<|U w) ((K ps+k)*2+1) o:=⟨_,Ca (Cc a.e _) (Pv b).2⟩
 have z:=λj=>Dy wr (O<|U w) j _ _ a.e;have p:=T b;clear b;have u:D<|Pw w (ps++GQ (k+1))<|AB (AB wr ⟨O<|U w,(K ps+k)*2,Ao⟩<|Ae ⟨#[98,101,121,111,110,100]⟩) ⟨O<|U w,(K ps+k)*2+1,Ao⟩<|Ah AQ:=by have h:=a.set (K ps+k) SH AQ p;rw[ox,qxf c]at h;exact h
 go_wp2;go_roundg g
 case measure=>omega
 grind
theorem q7P:GQ 8=AV 8 (SH,AQ):=rfl
def qmm(v:Aq)(n cap:I)(w:X):Ar As 35 #[v,G Ao n cap] w λe a=>e=Ak (Ah AP)/\a=w:=by have b:=λw=>Mn (P:=As) w 32 146 Ao n cap 0 0 underlying32;go_enter func35,ntmps35;go_wp2;go_ret;exact⟨Z,Z⟩
theorem qko(pc:I){BE:I}(F:K ps+8<=9223372036854775807){w:X}(m:Gb w (H ad) ps)(j:A7 w BE (Gc<|ps++GQ 8) 146):Ar As 35 #[G (Aa BE) (K ps)<|K ps+8,G (H ad) (K ps) pc] w λe B=>e=Ak (Ah AP)/\A0 w B:=by
 have p:=T m;have s:=T j;have q:=T<|(L6.1 j).1;clear m j;have R:=λw=>Mn (P:=As) w 32 146 (H ad) (K ps) pc 0 0 underlying32;have r:D<|K (ps++GQ 8)=K ps+8:=by grind [D,lR]
 go_enter func35,ntmps35;go_wp2
 go_loopg[7] (K ps+8) (λg x wr=>∃k:I,D (k+g=K ps+8)/\x=C Y k/\D (A0 w wr))
 case atStart=>grind [D,Below.refl]
 case round =>
  obtain⟨k,n,rfl,a⟩:=hrel;have f:=T<|Ca (Co a _ q) s;obtain _|g:=gk
  .have A:¬(k:J)<K ps+8:=AY<|AE n;go_wp2;go_ret;exact⟨Z,a⟩
  have A:(k:J)<K ps+8:=AY<|AE n;have i:k<K (ps++GQ 8):=by rw[AE r];omega
  have h:=Pv i;have c:=Ca (Cc f<|k*2) h.1;have d:=Ca (Cc f<|k*2+1) h.2;have L:=(L6.1 f).1;clear h;by_cases o:k<K ps
  .have z:(k:J)<K ps:=E;obtain⟨b,off,y,N,u,v⟩:=(p.ac a).a0 k o;cases y;rw[Ou o]at c d;generalize ps[k]=t at *;obtain⟨key,S⟩:=t;dsimp only at c d u v;clear i;go_wp2
   go_quiet (fail)
   go_wp2;go_roundg g
   case measure=>omega
   case rel=>exact⟨k+1,B9,Bb,Cs (a.alloc a.size _) ⟨rfl,rfl,rfl,Cr _,λ_ _=>rfl⟩⟩
  have z:¬(k:J)<K ps:=E;have l:(ps++GQ 8)[k]=(SH,AQ):=by grind [q7P]
  rw[l]at c d;have Q:A6 wr BE (k*2)<|Ae ⟨#[98,101,121,111,110,100]⟩:=c;dsimp only at d;clear l i c;go_wp2
  go_quiet (fail)
  go_wp2;go_roundg g
  case measure=>omega
  case rel=>exact⟨k+1,B9,Bb,Cs (a.alloc a.size _) ⟨rfl,rfl,rfl,Cr _,λ_ _=>rfl⟩⟩
theorem q4l(h:Fq W lo t pa<|ss.map Kt):QM W pa ss:=by
 refine⟨λi g=>?_⟩;rcases h with h|⟨b,off,d,fr,e,j,a,f⟩
 .have:=congrArg List.length h;grind
 have c:=f i (by simpa using g);refine⟨b,off,e,(L6.1 a).1,?_⟩;rw[Iy W b _ d _ fr a,c,List.getElem_map];rfl
theorem Zd.a0(h:Zd W lo v rs):∃a c,v=G a (K rs) c/\SF W a rs:=by
 obtain⟨t,h,f⟩:=h;obtain⟨k,⟨b,d⟩|⟨g,c,j,b,d,l,_,_,_,m⟩⟩:=h
 .exact⟨Ao,0,by rw[b,d],⟨λi e=>E⟩⟩
 refine⟨_,_,b,⟨λi e=>?_⟩⟩;obtain⟨r,s,n,o,p,q⟩:=f.2 i kf8;grind [cell_of_row,SG,q4l]
theorem lT{c:CF}(h:CW c=0):E5 c.a.toNat c.e.data.toList<0:=by grind [QL,Fg]
theorem qye{c:CF}(pc:I){w:X}(b:Fa w c)(o:Hn w)(hp:Gb w pa ps):Ar As 34 #[.agg c.ai,G pa (K ps) pc] w λe w'=>e=Ak (Af #[C Y (Ks c ps).1,C Y (Ks c ps).2,C Y<|LC c ps])/\A0 w w':=by
 have p:=T c.size;have x:=T hp;have a:=T<|Pq w c;have m:=Vf c _ (a.ai b)<|o.ac a.ac;clear b o hp;by_cases s:CW c=0
 .have n:=T s;rw[s]at m;clear s;by_cases ak:(4096:J)<K ps
  .have d:D<|LC c ps=7/\Ks c ps=(0,0):=Za n (by grind [Ja]);go_enter func34,ntmps34
   go_wp2_with(first
    |(refine CO Z 40 _ Z _ Z _ _ _ _ a.h underlying40 Z (DC p) ?_)
    |(go_at_call 27;refine Ce m ?_;clear m;rintro e w2 ⟨rfl,j⟩;have f:=T<|a.a0 j;clear a;have a:=f;clear f j))
   go_ret3
   rw[d.1,d.2];exact⟨Z,a.ac⟩
  have ah:K ps<=4096:=B5;have q:D<|Ja ps=ps.all GO:=by grind [D,Ja]
  go_enter func34,ntmps34
  go_wp2_with(first
   |(refine CO Z 40 _ Z _ Z _ _ _ _ a.h underlying40 Z (DC p) ?_)
   |(go_at_call 27;refine Ce m ?_;clear m;rintro e w2 ⟨rfl,j⟩;have f:=T<|a.a0 j;clear a;have a:=f;clear f j))
  go_loopg[9] (K ps) (λg z ae=>∃k:I,z=C Y k/\D (k+g=K ps)/\D (Ng w c ae)/\D (ps.all GO=(ps.drop k).all GO))
  grind [D];clear a;obtain⟨k,rfl,o,l,v⟩:=hrel;obtain _|g:=gk
  .have ag:¬(k:J)<(K ps:J):=AY<|AE o;have d:=T (lL n<|by rw[AE q,AE v,Ox<|AY<|AE o];rfl);have V:=(Pr<|Zf n).1.symm;have P:=Ze V (w:=wr);have F:=T<|lT n;have B:=Z5<|QL n;have y:=T B.1;have A:D (∀i (h:i<K (Ea c.e.data.toList)),(Ea c.e.data.toList)[i].1.length<=1000):=λi h=>B9;clear B q v V
   go_wp2_with(first
    |(refine CO Z 40 _ Z _ Z _ _ _ _ l.h underlying40 Z (DC p) ?_)
    |fail)
   refine Ce P ?_;clear P;rintro e w3 ⟨ra,rm,rc,rfl,Q,S⟩;obtain⟨a',aj,he,W⟩:=(S F).a0;injection he with he1 he2 he3;subst he1;subst he2;subst he3;have u:=T<|l.a0 Q;have L:=lN c.ai c.c Z rc pc W (x.ac u.ac) ah (AY<|AE y) A;have ab:=T d.1;have ac:=T d.2;clear d S W Q l y A F;generalize Dz c.c ((Ea c.e.data.toList).map DV) ps=z at *;generalize E5 c.a.toNat c.e.data.toList=rv at *
   go_wp2_with(first
    |(refine CO Z 40 _ Z _ Z _ _ _ _ u.h underlying40 Z (DC p) ?_)
    |(go_at_call 73;refine Ce L ?_;clear L;rintro e w4 ⟨rfl,R⟩;have aa:=T<|u.a0 R;clear R))
   go_ret3
   rw[AE ab,AE ac];exact⟨Z,aa.ac⟩
  have af:k<K ps:=AY<|AE o;have ag:(k:J)<(K ps:J):=B5;obtain⟨ai,off,rfl,hb,e0,e1⟩:=(x.ac l.ac).a0 k af;have r:D<|ps.all GO=(GO ps[k]&&(ps.drop<|k+1).all GO):=BT;clear v;generalize ps[k]=t at *;obtain⟨key,ix⟩:=t;cases ix
  .go_wp2;go_roundg g;exact⟨k+1,Bb,B9,l,by have h:=AE r;exact h⟩;omega
  cases hk:key.isEmpty
  .have d:=T (Za n<|by rw[AE q,AE r];grind [GO]);clear r q;go_wp2
   go_ret3
   rw[d.1,d.2];exact⟨Z,l.ac⟩
  have ad:D<|ps.all GO=(ps.drop<|k+1).all GO:=by grind [GO]
  clear r;go_wp2;go_roundg g;exact⟨k+1,Bb,B9,l,ad⟩;omega
 have d:=T<|lK s ps;generalize CW c=E at *;generalize E9 c=N at *;go_enter func34,ntmps34
 go_wp2_with(first
  |(refine CO Z 40 _ Z _ Z _ _ _ _ a.h underlying40 Z (DC p) ?_)
  |(go_at_call 27;refine Ce m ?_;clear m;rintro e w2 ⟨rfl,j⟩;have f:=T<|a.a0 j;clear a;have a:=f;clear f j))
 go_ret3
 rw[d.1,d.2];exact⟨Z,a.ac⟩
def qtJ(c:CF)(w:X)(ps:AJ<|A1×AK):LC (c.aq w) ps=LC c ps:=rfl
def qtv(c:CF)(w:X)(ps:AJ<|A1×AK):Ks (c.aq w) ps=Ks c ps:=rfl
structure KZ(w:Ap)(o:FR)(ps:AJ (A1×AK)):Prop where
 len:o.e=At ps
 a0:Gb w o.g ps
 none_:o.g=Ao->o.e=0/\o.h=0
 q:∀i (h:i<At ps),ps[i].1.length<=maxLen
 bytes:(At ps+8)*24<=281474976710656
def KZ.ac{w:X}{o:FR}(h:KZ w o ps)(hb:A0 w w'):KZ w' o ps:={h with a0:=h.a0.ac hb}
def Px(pp:A4)(ps:AJ<|A1×AK)(pa:A4)(pc:AH)(W:Ap):Prop:=pp=Ao/\pa=Ao/\pc=0/\ps=[]\/∃N,pp≠Ao/\pa=Aa N/\pc=At ps+8/\W.heap[N]?=An (Aj (Gc<|ps++GQ 8) 146)
theorem Px.next(h:Px pp ps pa pc W)(hb:A0 W V):Px pp ps pa pc V :=
 h.imp id λ⟨N,b,c,d,a⟩=>⟨N,b,c,d,Ca (Co hb _<|Cd a) a⟩
def Px.path(h:Px pp ps pa pc W):Gb W pa ps:=by
 rcases h with⟨_,_,_,rfl⟩|⟨N,_,rfl,_,h⟩
 .exact⟨λi h=>absurd h<|Nat.not_lt_zero i⟩
 refine⟨λi a=>?_⟩;have g:=Pv (L:=ps++GQ 8) (i:=i) (by rw[Dj];omega);rw[Ou a]at g;exact⟨N,0,Z,Cd h,by rw[Gf];exact Ca (Cc h _) g.1,by rw[Gf];exact Ca (Cc h _) g.2⟩
def qos{w:X}{o:FR}(h:KZ w o ps):Ar As 32 #[G o.g o.e o.h] w λe b=>∃c d,e=Ak (G c (K ps) d)/\A0 w b/\Px o.g ps c d b:=by
 rcases hp:o.g with _|g
 .obtain⟨a,f⟩:=h.none_ hp;obtain rfl:ps=[]:=List.length_eq_zero_iff.1<|Ca h.len.symm a;rw[a,f];refine Ce (qmq w) ?_;rintro e b ⟨rfl,rfl⟩;exact⟨Ao,0,Z,Cu _ _,AF ⟨Z,Z,Z,Z⟩⟩
 rw[h.len];refine Ce (qlJ o.h (hp▸h.a0) h.bytes) ?_;rintro e b ⟨rfl,a⟩;exact⟨_,_,Z,a.ac,AG ⟨_,nofun,Z,Z,a.e⟩⟩
def ql9{w:X}{o:FR}(h:KZ w o ps)(f:Px o.g ps pa pc w):Ar As 35 #[G pa (K ps) pc,G o.g o.e o.h] w λe c=>e=Ak (Ah AP)/\A0 w c:=by
 rcases f with⟨a,_⟩|⟨N,a,rfl,rfl,d⟩
 .rw[a];refine Ce (qmm _ _ _ w) ?_;rintro e c ⟨rfl,rfl⟩;exact⟨Z,Cu _ _⟩
 obtain⟨g,b⟩:=Option.ne_none_iff_exists'.1 a;rw[b,h.len];exact qko o.h (AY h.bytes) (b▸h.a0) d
theorem qws{c:CF}{o:FR}(p:o.f=1\/o.f=2\/o.f=3){w:X}(hc:Fa w c)(hg:Hn w)(hp:KZ w o ps):Ar As 13 #[.agg c.ai,.agg o.ai] w λe w'=>e=Ak (Ah AP)/\A0 w w':=by
 have HG:=T hg;have r:=T hp;have W:=T c.size;have aa:D<|Fa (Az (Az w<|M c.ai 40)<|M o.ai 34) c:=oW hc;have X0:D<|(Az (Az w _)<|M o.ai 34).heap[O<|U w]?=H (M c.ai 40):=Ca (CB _ _ _ Ba)<|Cj _;have F:=br aa;clear hc hg hp;obtain⟨f,P⟩:=IA<|Az (Az w<|M c.ai 40)<|M o.ai 34;have R:=T P;rw[<-P]at F;have af:D<|A7 f (O<|U w) c.ai 40:=B9;have ad:D (∀g,PW f g (c.L++Ej 8) (c.B++F3 8)->Rj w (Az g<|M (c.aq f).ai 40) c o.ai (O<|U g) f):=by grind [D,oV]
 have q:D<|Fa f c:=B9;have u:D<|Hn f:=by rw[AE R];exact HG.ac<|(Cm).alloc Ba _
 have A:=T<|(c.aq f).size;have ae:=T<|(c.aq f).a0;clear P aa X0;go_enter func13,ntmps13
 go_wp2_with(first
  |(refine CO Z 40 _ Z _ Z _ _ _ _ af underlying40 Z (DC W) ?_)
  |(refine bw R ?_)
  |fail)
 apply F.mono;clear F;rintro e g ⟨rfl,x⟩;have a:=T<|ad g x;have y:=T<|bm q x;have z:=T<|u.ac x.ac;have l:D<|Below _ g<|Az g<|M (c.aq f).ai 40:=Cm;have t:D (∀V:X,A7 V (O (U w)+1) o.ai 34->A6 V (O (U w)+1) 2 (C Y o.b)/\A6 V (O (U w)+1) 3 (C Y o.c)/\A6 V (O (U w)+1) 6 (G o.g o.e o.h)):=λV h=>⟨Cc h 2,Cc h 3,Cc h 6⟩
 obtain⟨i,j,k⟩:=t.out _ a.op;have h0:=Cc a.op 0;clear x;rcases p with p|p|p
 case' inl =>
  have d:=q4I _ _ (y.ac l)<|z.ac l;rw[qt9,qtP]at d;have S:=T λV h=>Vf c V (q.ac h)<|u.ac h
 case' inr.inl =>
  have d:=q8F _ o.b o.c _ (y.ac l)<|z.ac l;rw[qtR,qti]at d;have S:=T λV h=>qtc c o.b o.c V (q.ac h)<|u.ac h
 case' inr.inr =>
  have d:=qos<|r.ac a.ac
 all_goals
  have ok:o.ai[0]?=H (C Y o.f):=rfl;rw[p]at ok;have ac:=Ca h0 ok;clear h0 ok p
  go_wp2_with(first
   |(refine Ww Z Z Z (O<|U g) Z ?_)
   |(refine D8 Z 40 _ _ Z (O<|U g) (c.aq f).ai Z Z 40 FQ (Cj g) (DC A) (PX A) ae ?_;rw[Gd])
   |(refine CO Z 40 _ Z _ Z _ _ _ _ a.h underlying40 Z (DC W) ?_)
   |(refine CO Z 40 _ Z _ Z _ _ _ _ a.aq underlying40 Z (DC A) ?_)
   |((first|go_at_call 29|go_at_call 30);refine Ce d ?_;clear d ac i j k;rintro e w3 ⟨rfl,n⟩;have a:=T<|a.a0 n;obtain⟨i,j,k⟩:=t.out _ a.op;have m:=S.out w3 a.ai)
   |(go_at_call 32;refine Ce d ?_;clear d ac i j k;rintro e w3 ⟨pa,pc,rfl,n,Q⟩;have a:=T<|a.a0 n;have s:=T Q;have d:=qtd pc ((y.ac l).ac n) ((z.ac l).ac n) Q.path r.q;rw[qtv,qtJ]at d;clear n Q)
   |(go_at_call 33;refine Ce d ?_;clear d;rintro e w4 ⟨rfl,v⟩;have a:=T<|a.a0 v;have s:=T<|s.next v;obtain⟨i,j,k⟩:=t.out _ a.op;have m:=qye o.h (q.ac a.ai) (u.ac a.ai) (r.ac a.ac).a0;rw[<-r.len]at m)
   |((first|go_at_call 27|go_at_call 31);refine Ce m ?_;clear m i j k;rintro e w4 ⟨rfl,v⟩;have a:=T<|a.a0 v)
   |(go_at_call 34;refine Ce m ?_;clear m i j k;rintro e w5 ⟨rfl,N⟩;have a:=T<|a.a0 N;have s:=T<|s.next N;obtain⟨i,j,k⟩:=t.out _ a.op;clear N)
   |(go_at_call 35;refine Ce (ql9 (r.ac a.ac) s) ?_;clear i j k;rintro e w6 ⟨rfl,ab⟩;have a:=T<|a.a0 ab;clear ab)
   |(go_at_call 28;refine Ce (bu q a.ai a.e a.b) ?_;rintro e w7 ⟨rfl,ag,_⟩))
  go_ret;exact⟨Z,Cs a.ac<|CG ag<|by grind [D,a.d]⟩
def QU(c:CF)(A:AH)(bv:Aq):A3:=#[Ab Al c.f,Ab Al c.out,Ab Al c.b,Ab Al c.bytes]++(Dp c.a.toNat (DY c.a.toNat c.L)++#[Ab Al c.d,Ab Al c.key,A8 A])++#[bv,Ac Ao 0 0,Ah AQ]
def GS(c:CF):AJ<|AJ (AH×A1)×AI×AI:=(Ea c.e.data.toList).map DV
theorem qsK{w:X}{a:A4}{B:AJ J}(h:G3 w a B)(t:a=Ao->K B=0/\cap=0)(z:K B<=8):Ar As 58 #[G a (K B) cap] w λe c=>∃d f,e=Ak (G d (K B) f)/\DQ c 3 1 (λg=>O (U w)<=g/\g<O (U c)) (G d (K B) f) (K B) (B.map<|Value.int Y)/\A0 w c:=by
 have N:∀{c:X} {v:Aq} {n:I} {l:AJ Aq},c.ownsRow (O<|U w) 3 1 v n l->∃d f,v=G d n f/\DQ c 3 1 (λg=>O (U w)<=g/\g<O (U c)) (G d n f) n l:=by
  rintro c v n l ⟨m,s⟩;rcases s with⟨rfl,rfl⟩|⟨g,cap,q,rfl,u,o,x⟩
  .exact⟨Ao,0,Z,m,AF ⟨Z,Z⟩⟩
  exact⟨_,_,Z,m,AG ⟨g,cap,q,Z,⟨u,(Cd o)⟩,o,x⟩⟩
 obtain _|p:=a
 .obtain⟨i,y⟩:=t rfl;refine(Tryz.slices_Clone_int_nil (K B) cap w).mono ?_;rintro e c ⟨rfl,rfl⟩;have k:=QZ i;subst k;exact⟨Ao,0,Z,⟨Z,AF ⟨Z,Z⟩⟩,Cu _ _⟩
 by_cases r:K B=0
 .have k:=QZ r;subst k;refine(Tryz.slices_Clone_int_zero p cap w).mono ?_;grind
 obtain⟨b,off,i,L,A⟩:=h.a0 0 E;injection i with i;subst i;refine(Tryz.slices_Clone_int b off (K B) cap B w (Cr _) E λj F=>?_).mono ?_
 .grind
 grind
structure Oo(c:CF)(W0:Ap)(L A:AH)(q:D0)(sts:AJ ((AH->AH)×AI×AI))(sa:A4)(sc:AH)(nf mf:Lit->Option AH)(bv:Aq)(V:Ap):Prop where
 a:Z3 W0 (GS c) c.c A q sts sa sc nf mf V
 d:DQ V 3 1 (λg=>Au (Av W0)<=g/\g<L) bv (At c.B) (c.B.map (Value.int Al))
 e:∃ba bc,bv=Ac ba (At c.B) bc
def mS(c:CF)(w:Ap)(e:Ending)(w':Ap):Prop :=
 A0 w w'/\((¬CW c=0/\e=Ak (Af #[Ad Ao,Ab Al<|CW c]))\/(CW c=0/\∃W0 L A q sts sa sc nf mf bv,e=Ak (Af #[A8 L,Ab Al 0])/\Au (Av w)<=Au (Av W0)/\Au (Av W0)<=L/\Au (Av w')=L+1/\w'.heap[L]?=An (Aj (QU c A bv) 135)/\(∃lo rc,Au (Av w)<=lo/\KY W0 lo (Ac q.h (At<|GS c) rc) (GS c))/\Oo c W0 L A q sts sa sc nf mf bv w'))
def q97{O:A3}{a:A4}(h:A=J9 O a k cap)(d:O.size=37):∀(j:I) (u:Aq),O[j]?=H u->A[j]?=H u:=by intro j u b;have c:j<37:=AY<|Cd b;rw[h];unfold J9;rw[af,Cl E];exact b
def q6G{m:I->I->AK}:(prog.info? 123).map (·.size)=H (Dp n m).size:=by rw[Dc];kernel_rfl
theorem q0W{c:CF}{w:X}(hc:Fa w c)(r:Hn w)(bb:CW c=0->K c.B<=8):Ar As 26 #[.agg c.ai] w<|mS c w:=by
 have HS:=T c.size;have HC:=T hc;have ah:=T bb;have z:=T<|Pq w c;have cR:=UR (z.ai hc)<|r.ac z.ac;have g:=T<|QI c;go_enter func26,ntmps26
 go_wp2_with(first
  |(refine CO Z 40 _ Z _ Z _ _ _ _ z.h underlying40 Z (DC HS) ?_)
  |fail)
 refine cR.mono ?_;rintro am f ⟨A,rfl,q,a8⟩;rw[g.1,g.2];have ae:=T q.1;have ag:=T q.2.1;have HZ:D<|EY.size=A.size:=by grind [Oe]
 have F:=T<|z.a0 a8;have y:D<|QK w c (O<|U f) A<|Az f<|M A 126:=⟨F.ac.alloc F.ac.size _,(CB _ _ _<|Cd F.h).trans F.h,Cj _⟩
 have e:=q.2.2;rw[g.1]at e;by_cases m:CW c=0
 .obtain⟨_,v,sk,x,u,lo,aq,ab⟩:=e m;obtain⟨ra,rc,bg,ap⟩:=ab.ac;injection bg with e1 e2 e3;subst e1;subst e2;subst e3;have a7:A[37]?=H (G v (K<|GS c) x):=by rw[u];unfold J9;rw[af,Dc];rfl
  have bj:=T<|q97 u<|Dc;have aj:D<|O (U w)<=lo/\KY { (Az f<|M A 126)with drawn:=(Az f<|M A 126).drawn+1} lo (G v (K<|GS c) x) (GS c):=⟨CE Ba aq,ab.kept λbk _ h=>CB _ _ _ h⟩
  have a0:D<|J7 (Az f<|M A 126) v<|GS c:=ap.ac Cm;have a4:=UW<|QL m;have ax:=T<|ah m;have ar:=T m;clear u e ab ap ah aq;rw[m];obtain⟨hn,h8,be⟩:=a4;have ay:D<|K (GS c)<=16:=hn;have H8:D (∀i (h:i<K (GS c)),(GS c)[i].1.length<=8):=h8;have aw:D (∀i (h:i<K (GS c)) j (h2:j<(GS c)[i].1.length),(GS c)[i].1[j].1<=3/\(GS c)[i].1[j].2.length<=1000000000):=be
  go_wp2_with(first
   |(refine Nh Z Z Z (O<|U f) Z ?_)
   |(refine D8 Z 126 _ _ Z (O<|U f) A Z Z 126 EY (Cj f) (KW ae) HZ ag ?_;rw[Gd]))
  have d:(λa:X=>A7 a (O<|U w) c.ai 40/\A7 a (O<|U f) A 126) { (Az f<|M A 126)with drawn:=(Az f<|M A 126).drawn+1}:=⟨y.h,y.aq⟩
  refine Ei (S:=λa=>A7 a (O<|U w) c.ai 40/\A7 a (O<|U f) A 126) B6 ?_;have V:D<|A0 w { (Az f<|M A 126)with drawn:=(Az f<|M A 126).drawn+1}:=y.ac.drew;have a1:D<|J7 { (Az f<|M A 126)with drawn:=(Az f<|M A 126).drawn+1} v<|GS c:=a0.ac (Cu _ _).drew;generalize({ (Az f<|M A 126)with drawn:=(Az f<|M A 126).drawn+1}:X)=W4 at *;generalize O (U f)=N4 at *;have az:D (∀a:X,A7 a N4 A 126->∀(j:I) (ad:Aq),(Dp c.a.toNat<|DY c.a.toNat c.L)[j]?=H ad->A6 a N4 (0+j) ad):=λa k j ad hu=>by grind [D,Cc]
  refine Cb 0 16 (A9 (O<|U w) 6) d <| Ch 1 17 (C Y c.f) Z (λa k=>by have l:A6 a (O<|U w) 6<|C Y c.f:=Cc k.1 6;go_simp) d ?_;refine Cb 2 18 (A9 (O<|U w) 7) d <| Ch 3 19 (C Y c.out) Z (λa k=>by have l:A6 a (O<|U w) 7<|C Y c.out:=Cc k.1 7;go_simp) d ?_;refine Cb 4 20 (A9 (O<|U w) 8) d <| Ch 5 21 (C Y c.b) Z (λa k=>by have l:A6 a (O<|U w) 8<|C Y c.b:=Cc k.1 8;go_simp) d ?_;refine Cb 6 22 (A9 (O<|U w) 9) d <| Ch 7 23 (C Y c.bytes) Z (λa k=>by have l:A6 a (O<|U w) 9<|C Y c.bytes:=Cc k.1 9;go_simp) d ?_;refine Cb 8 24 (Ag #[C Y c.b,C Y c.bytes]) d <| Cb 9 25 (A8 N4) d <| Ch 10 26 (.agg<|Dp c.a.toNat<|DY c.a.toNat c.L) Z (λa k=>by exact Od (.tmp 25) B6 B6 (az a k.2) underlying123 B6<|q6G) d <| Cb 11 27 (A9 (O<|U w) 4) d <| Ch 12 28 (C Y c.d) Z (λa k=>by have l:A6 a (O<|U w) 4<|C Y c.d:=Cc k.1 4;go_simp) d ?_;refine Cb 13 29 (A9 (O<|U w) 5) d <| Ch 14 30 (C Y c.key) Z (λa k=>by have l:A6 a (O<|U w) 5<|C Y c.key:=Cc k.1 5;go_simp) d ?_;refine Cb 15 31 (A9 N4 37) d <| Ch 16 32 (G v (K<|GS c) x) Z (λa k=>by have l:=(Cc k.2 37).trans a7;go_simp) d <| Cb 17 33 (A9 (O<|U w) 2) d <| Ch 18 34 (C Y c.c) rfl (λa k=>by have l:A6 a (O<|U w) 2<|C Y c.c:=Cc k.1 2;go_simp) d ?_;refine Cb 21 37 (A9 (O<|U w) 10) d <| Ch 22 38 (G c.i (K c.B) c.g) Z (λa k=>by have l:A6 a (O<|U w) 10<|G c.i (K c.B) c.g:=Cc k.1 10;go_simp) d ?_;refine CH 19 λal t=>?_;go_simp;refine(lp x c.c a1 ay H8 aw).mono ?_;rintro am w5 ⟨s,bh,bi,ta,tc,nf,mf,rfl,bf,ao⟩;have a2:=T bf;simp only[];have R:=ao.a.ac;have ai:=T ao;have W:=T<|V.trans<|R.mono V.size;have o:(λa:X=>A7 a (O<|U w) c.ai 40/\A7 a N4 A 126) w5:=⟨(R.block _<|Cd d.1).trans d.1,(R.block _<|Cd d.2).trans d.2⟩
  have a5:=T V.size;have ak:=T R.size;refine t.out _ _ o λ_=>?_;refine Cb 20 36 (.agg<|Dp c.a.toNat (DY c.a.toNat c.L)++#[C Y c.d,C Y c.key,A8 s]) o <| CH 23 λal t=>?_;go_simp;refine(qsK ((HC.ac W).b) HC.bn ax).mono ?_;rintro am n ⟨P,Q,rfl,bd,aa⟩;simp only[];have p:(λa:X=>A7 a (O<|U w) c.ai 40/\A7 a N4 A 126) n:=⟨(aa.block _<|Cd o.1).trans o.1,(aa.block _<|Cd o.2).trans o.2⟩
  have a3:=T bd;have b:=T aa;refine t.out _ _ p λ_=>?_;refine Cb 24 40 (.agg<|QU c s<|G P (K c.B) Q) p <| CH 25 λal t=>?_;go_simp;have ac:(λa:X=>A7 a (O<|U w) c.ai 40/\A7 a N4 A 126)<|Az n<|M (QU c s<|G P (K c.B) Q) 135:=⟨(CB _ _ _<|Cd p.1).trans p.1,(CB _ _ _<|Cd p.2).trans p.2⟩
  refine t.out _ _ ac λ_=>?_;refine Cb 26 2 (A8<|O<|U n) ac <| Cb 27 3 (C Y 0) ac <| CK ?_;go_simp;go_wp2
  go_ret2
  have a9:A0 n<|Az n<|M (QU c s<|G P (K c.B) Q) 135:=Cm;have an:=b.trans<|a9.mono b.size;refine⟨W.trans<|an.mono W.size,AG ⟨ar,W4,O<|U n,s,bh,bi,ta,tc,nf,mf,G P (K c.B) Q,Z,a5,CE ak b.size,CL _ _,Cj n,⟨lo,x,aj.1,by rw[AE a2];exact aj.2⟩,⟨{AE ai with a:=ai.a.next an},?_,_,_,rfl⟩⟩⟩;exact a3.same (λa6 r=>⟨CE ak r.1,r.2⟩) λa6 r=>CB _ _ _ r.2
 have HE:=T m;have av:D<|mS c w (Ak<|Af #[Ad Ao,C Y<|CW c])<|Az f<|M A 126:=⟨y.ac,AF ⟨m,Z⟩⟩
 generalize CW c=E at *;generalize E9 c=N at *;have hE:(E==0)=AQ:=by simpa using HE.out
 go_wp2_with(first
  |(refine Nh Z Z Z (O<|U f) Z ?_)
  |(refine D8 Z 126 _ _ Z (O<|U f) A Z Z 126 EY (Cj f) (KW ae) HZ ag ?_;rw[Gd]))
 go_ret2
 exact av
theorem ZB{dflt:J}(a:∃l:I,dflt=l/\l<n):∀(rs:AJ<|AJ (I×A1)×J×J),(∀x∈rs,∃l:I,x.2.1=l/\l<n)->∀p,∃l:I,(Dz dflt rs p).1=l/\l<n
 |[],_,_=>a
 |x::rs,hr,p=>by
  rw[Dz];split
  .grind [List.mem_cons_self]
  exact ZB a rs (λy b=>hr y<|LL _ b) p
end
end Go.Proofs.YtaehkdnabiccnaaGreatDoor


