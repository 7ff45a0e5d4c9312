import Derived.Test.YtaehkdnabiccnaaGreatDoorGr03
import Derived.Test.YtaehkdnabiccnaaGreatDoorGr02
set_option maxRecDepth 100000
set_option maxHeartbeats 8000000
set_option linter.all false
namespace Go.Proofs.YtaehkdnabiccnaaGreatDoor
open Go.Proofs.Tryz
open _root_ renaming Nat->I,Int->J,Nat->AH,Int->AI,List->AJ,Bool->AK,Except->AS,ByteArray->AT,UInt8->AU
open Go.Value renaming int->C,slice->G,slice->AX,int->Ab,slice->Ac,string->Ae,tuple->Af,agg->Ag,bool->Ah,ownBlock->Ax
open Go.World renaming heap->U,setCell->AB,cell?->AC,setRow->AD,heap->Av,alloc->Az
open _root_.Array renaming size->O,size->Au,setIfInBounds->Ay
open _root_.List renaming length->K,replicate->AV,length->At,toArray->Aw
open Go.IntKind renaming i64->Y,i64->Al,u8->Am
open Go.RowKit renaming Hid->D
open Go renaming World->X,DataW->AM,TypeId->AN,undef->AO,World->Ap,Value->Aq,Calls->Ar
open Option renaming some->H,some->An,none->Ao
open Go.Obj renaming cells->M,cells->Aj
open Go.Ending renaming returned->Ak
open Go.Proofs.Tryz renaming prog->As
open Go.RowKit.Hid renaming out->AE
open Or renaming inl->AF,inr->AG
open _root_.Bool renaming true->AP,false->AQ
open _root_.Decidable renaming decide->AR
variable{P:Program}{d dp fm kd l lim q z:J}{B L N S b b0 base bytes g g2 i j k last lcap lo m n num p p3 so x:I}{V V' W W' w' w2 w5:X}{ops:Array Oper}{rest:AJ Oper}{o o1 o2:Obj}{A a cur tmps y:A3}{Q:Exit->Act->X->Prop}{e t ty:AN}{c:AU}{cs cv gv kv kx lv u ux v v':Aq}{vs xs:AJ Aq}{ex:I->Prop}{r:AS (J×J) (AM Unit×I)}{bs:A1}{F f:J×J}{R:AS (J×J) (I×I×I×I)}{ds:AJ (AM Unit)}{o0:Option I}{la:A4}{mc:I->I}{fn:Func}{fr:I×I}{kl:AJ A1}{rd:I->AS (J×J) (AM Unit×I)}
section
open Go.RowKit Go.Lib
def cu{z:Aq}:(madeCells #[z] n).size=n:=by simp[madeCells]
def qy(n:I)(h:n+8<=281474976710656)(w:X):(Instr.makeSlice 50 (C Y<|(n:J)+8)<|C Y<|(n:J)+8).run As w=.ok (G (Aa<|O<|U w) (n+8)<|n+8) (Az w<|M (madeCells #[C Am 0]<|n+8) 5):=by obtain⟨i,b,d,c,a⟩:=DL Tryz.infoU8;have:=T9 w 50 5 i _ underlying50 b d Y Y _ (n+8) E (OI _) kfX E;rw[this,c];have e:((n:J)+8).toNat=n+8:=E;rw[e,T5];rfl
def qz{w:X}{o:Oper}{a:Act}{d s:Operand}{dT:AN}(i:AN)(p:o.op=.call {callee:=.builtin .copy,args:=#[d,s],argTypes:=#[dT,i]})(m:o.guard=Ao){elem:AN}(u:P.underlying dT=H (.slice elem))(r:(P.info? elem).map (·.size)=H 1)(c e:I)(b:AT)(k:a.eval d=G (Aa g) c e)(q:a.eval s=.string b)(l:w.heap[g]?=H (M cur t (0,0)))(n:b.size<=c)(x:b.size<=cur.size)(h:wpList P ops Q rest (a.put o.dst<|goInt b.size)<|AD w g<|Aw<|byteCells b.data.toList++cur.toList.drop b.size):wpList P ops Q (o::rest) a w:=by refine LQ m λv j=>?_;have f:=run_copy_row_string w dT i o.type elem g 0 c e b cur t u r l n E;simp only[Gg,SU,Ka]at f;unfold Oper.wp;simp[execOp,p,resolve,invoke,builtin,k,q,f,Result.andThen];exact j _ _ h
def Ji:A1:=AV 8 77
def IM(l:A1):A3:=Aw<|l.map CP
theorem cw(l:A1):(IM l).size=K l:=by simp[IM]
theorem Ru(l:A1)(j:I):(IM l)[j]?=l[j]?.map CP:=by simp[IM]
def qA{s:A1}(b:cur.size=K s+8):(Aw<|byteCells s++cur.toList.drop (K s)).size=K s+8/\∀j,j<K s->(Aw<|byteCells s++cur.toList.drop (K s))[j]?=(IM<|s++Ji)[j]?:=by
 have a:K (byteCells s)=K s:=by simp[byteCells]
 refine⟨by simp[a];omega,λj c=>?_⟩;rw[Ru,Hh E,VH,Hh E];simp[byteCells];rfl
theorem qC{l:A1}(d:cur.size=K l)(b:k<K l)(a:l[k]?=H c)(h:∀j,j<k->cur[j]?=(IM l)[j]?):(Ay cur k<|CP c).size=K l/\∀j,j<k+1->(Ay cur k<|CP c)[j]?=(IM l)[j]?:=by grind [Ru]
theorem qD{l:A1}(a:cur.size=K l)(h:∀j,j<K l->cur[j]?=(IM l)[j]?):cur=IM l:=by grind [cw]
theorem cx(W:X){s:A1}(S:K s<=200000000):Ar As 18 #[Ae ⟨Aw s⟩] W λe l=>e=Ak (G (Aa<|O<|U W) (K s)<|K s+8)/\A7 l (O<|U W) (IM<|s++Ji) 5/\A0 W l:=by
 have f:(⟨Aw s⟩:AT).size=K s:=by simp[ByteArray.size]
 have R:=λw=>qy (K s) E w;have m:=qA (s:=s) (cur:=(madeCells #[C Am 0]<|K s+8))<|cu;have u:K (s++Ji)=K s+8:=by simp[Ji]
 obtain⟨b,n⟩:=IB<|Aw<|byteCells s++(madeCells #[C Am 0]<|K s+8).toList.drop (K s);rw[<-n]at m;have y:D<|A0 W<|(Az W<|M (madeCells #[C Am 0]<|K s+8) 5).setRow (O<|U W) b:=Dq Cm<|Cr _;have A:D<|((Az W<|M (madeCells #[C Am 0]<|K s+8) 5).setRow (O<|U W) b).heap[O<|U W]?=H (M b 5):=CR _ _ _ _ _ _<|Cj _;have B:=T m;go_enter func18,ntmps18
 go_wp2_with(first
  |(refine qz (dT:=50) 9 Z Z (elem:=5) underlying50 B6 (K s+8) (K s+8) ⟨Aw s⟩ Z Z (Cj _) (by rw[f];omega) (by rw[f,cu];omega) ?_;rw[f];rw[<-n];generalize(Az W<|M (madeCells #[C Am 0]<|K s+8) 5).setRow (O<|U W) b=V0 at *))
 go_loopg[5] 8 (λg z wr=>∃k:I,z=C Y k/\D (k+g=K s+8/\K s<=k)/\D (A0 W wr)/\∃cur,D (A7 wr (O<|U W) cur 5)/\D (cur.size=K s+8/\∀j,j<k->cur[j]?=(IM<|s++Ji)[j]?))
 grind;obtain⟨k,rfl,a,h,cur,d,i⟩:=hrel;obtain _|g:=gk
 .have N:¬(k:J)<(K s:J)+8:=AY<|AE a;have F:=T (qD (by grind [D]) λj t=>i.2 j<|AY<|AE a);go_wp2;go_ret;refine⟨Z,?_,h⟩;grind [D]
 have Q:(k:J)<(K s:J)+8:=AY<|AE a;have P:¬k<K s:=AY<|AE a
 .have q:=qC (c:=77) (cur:=cur) (by grind [D]) E (by grind [Ji]) i.2;have L:=Dy wr (O<|U W) k _ _ d;obtain⟨v0,x⟩:∃v,cur[k]?=H v:=⟨_,SO B9⟩
  have V:=Ca (Cc d k) x;have o:D<|(AB wr ⟨O<|U W,k,Ao⟩<|C Am 77).heap[O<|U W]?=H (M (Ay cur k<|CP 77) 5):=by show _=_;rw[DX _ _ _ _ _ _ d.out];rfl
  have p:D<|A0 W<|AB wr ⟨O<|U W,k,Ao⟩<|C Am 77:=Cs h ⟨Z,Z,Z,Bd,λj t=>CY wr _ _ _ B7⟩;have r:D ((Ay cur k<|CP 77).size=K s+8/\∀j,j<k+1->(Ay cur k<|CP 77)[j]?=(IM<|s++Ji)[j]?):=by rw[<-u];exact q
  go_wp2;go_roundg g;exact⟨k+1,Bb,⟨AY<|AE a,AY<|AE a⟩,p,_,o,r⟩;omega
theorem qE(g j:I):(⟨g,0,Ao⟩:Addr).add j=⟨g,j,Ao⟩:=C2
theorem qF(h:Ci g W V):Ci g W<|AB V ⟨g,k,Ao⟩ v:=⟨h.os,h.tape,h.output,by have:=h.size;grind [World.setCell],λj b a=>Ca (CY V _ _ _ Bl)<|h.block j b a⟩
theorem cy{s:A1}(h:A7 W g (IM<|s++Ji) 5)(Q:K s<=200000000):Ar As 21 #[G (Aa g) (K s)<|K s+8,Ae ⟨Aw s⟩] W λe t=>e=Ak (Ah AP)/\Ci g W t:=by
 have R:(⟨Aw s⟩:AT).size=K s:=by simp[ByteArray.size]
 have w:K (s++Ji)=K s+8:=by simp[Ji]
 have F:(convert 50 9<|G (Aa g) (K s)<|K s+8).run As W=.ok (Ae ⟨Aw s⟩) W:=by refine R5 W 50 9 5 ⟨g,0,Ao⟩ (K s+8) s underlying50 underlying5 underlying9 ?_;intro j d;have:=Cc h j;rw[Ru,Hh d,D7 d]at this;rw[qE];exact this
 have r:=T h;go_enter func21,ntmps21;go_wp2
 go_loopg[7,8] (K s+8) (λb y z wr=>∃k:I,y=Ah AP/\z=C Y k/\D (k+b=K s+8)/\D (Ci g W wr)/\∃a,D (A7 wr g a 5)/\D (a.size=K s+8/\∀j,k<=j->a[j]?=(IM<|s++Ji)[j]?))
 exact⟨0,Z,Z,Bg,⟨Z,Z,Z,Cr _,λ_ _ _=>rfl⟩,_,r,by rw[cw,w],λ_ _=>rfl⟩;obtain⟨k,rfl,rfl,o,f,a,i,q⟩:=hrel;obtain _|b:=gk
 .have L:¬(k:J)<(K s:J)+8:=AY<|AE o;go_wp2;go_ret;exact⟨Z,f⟩
 have P:(k:J)<(K s:J)+8:=AY<|AE o;obtain⟨A,p⟩:∃v,a[k]?=H v:=⟨_,SO<|by grind [D]⟩
 have S:=Ca (Cc i k) p;have B:=Dy wr g k _ _ i;have l:D<|(AB wr ⟨g,k,Ao⟩<|C Am 1).heap[g]?=H (M (Ay a k<|C Am 1) 5):=by grind [D,heap_setCell_same]
 have m:D<|Ci g W<|AB wr ⟨g,k,Ao⟩<|C Am 1:=qF f;have n:D ((Ay a k<|C Am 1).size=K s+8/\∀j,k+1<=j->(Ay a k<|C Am 1)[j]?=(IM<|s++Ji)[j]?):=⟨by grind [D],λj d=>by grind [D]⟩
 by_cases N:k<K s
 .have u:(k:J)<(K s:J):=E;go_wp2;go_roundg b;exact⟨k+1,Z,Bb,B9,m,_,l,n⟩;omega
 have u:¬(k:J)<(K s:J):=E;have x:A=C Am 77:=by have c:=q.2 k<|Cr _;rw[p,Ru,Jd E]at c;unfold Ji at c;rw[List.getElem?_replicate,Cp E]at c;injection c
 subst x;go_wp2;go_roundg b;exact⟨k+1,Z,Bb,B9,m,_,l,n⟩;omega
def JI(w w':Ap)(c:Aq):Prop:=Au (Av w)<=Au (Av w')/\∀(g:AH) (cur:A3) (t:AN) (fr:AH×AH),w.heap[g]?=An (Aj cur t fr)->∃cur',w'.heap[g]?=An (Aj cur' t fr)/\cur'.size=cur.size/\∀j:AH,cur'[j]?=cur[j]?\/(j<cur.size/\cur'[j]?=An c)
theorem Ts{w:X}{c:Aq}(d:O (U w)<=O (U w'))(h:∀j,j<O (U w)->w'.heap[j]?=w.heap[j]?):JI w w' c :=
 ⟨d,λg b _ _ a=>⟨b,Ca (h g<|Cd a) a,rfl,λ_=>AF rfl⟩⟩
theorem JI.trans{a b d:X}{c:Aq}(e:JI a b c)(f:JI b d c):JI a d c:=by refine⟨CE e.1 f.1,λg i t fr k=>?_⟩;obtain⟨h,j,l,m⟩:=e.2 g i t fr k;obtain⟨c2,f1,n,o⟩:=f.2 g h t fr j;grind
def Ry{w:X}{c:Aq}:JI w (Az w o) c:=Ts Ba λj a=>CB _ _ _ a
theorem qJ{w:X}{i:TypeInfo}{z:Aq}(r:P.underlying t=H (.slice e))(hi:P.info? e=H i)(y:i.zero=H z)(x:i.size=1)(B:i.bytes=bytes)(s:w.ownsRow base e 1 v n xs){a:Addr}{c:I}(q:∀j u,(AV m cv)[j]?=H u->AC w (a.add j)=H u)(h1:cv.oneCell'=AP)(R:0<m)(ab:n+m<=maxLen)(F:(n+m)*bytes<=140737488355328)(b:(Builtin.append_ #[t,t] ty #[v,G (H a) m c]).run P w=.ok v' w'):JI w w' cv:=by
 subst B;have ag:n+m<=9223372036854775807:=BC;have p:K (AV m cv)=m*i.size:=by rw[x];simp
 rcases s.2 with⟨rfl,rfl⟩|⟨g,f,k,rfl,ac,l,af,ae,L,ah⟩
 .have d:=run_append_nil (P:=P) w t ty e i z r hi y a m c _ p q R E B9;rw[d]at b;injection b with e1 e2;rw[<-e2];exact Ts Ba λj o=>CB w.drew _ j o
 by_cases V:n+m<=f
 .have N:n*i.size+K (AV m cv)<=k.size:=B9;have d:=run_append_room (P:=P) w t ty e i r hi g n f k l a m c _ p q (λu hu=>B9) V N;rw[d]at b;injection b with e1 e2;rw[<-e2,x];refine⟨Ba,λA W t' aa h=>?_⟩;by_cases Q:A=g
  .subst Q;rw[l]at h;injection h with h;injection h with h3 h4 h5;subst h3;subst h4;subst h5;have ad:K k.toList=f:=kfl;refine⟨_,CR _ _ _ _ _ _ l,?_,λj=>?_⟩<;>grind
  grind [setRow_other]
 have S:=s.cells (g:=g) Z;have d:=run_append_grow (P:=P) w t ty e i z r hi y ⟨g,0,Ao⟩ n f xs B9 S a m c _ p q E E<|growslice_fits E F;rw[d]at b;injection b with e1 e2;rw[<-e2];exact Ts Ba λj o=>CB w.drew _ j o
theorem WR{w:X}{o:Oper}{a:Act}(ab:o.guard=Ao){s x:Operand}(ho:o.op=.call {callee:=.builtin .append,args:=#[s,x],argTypes:=#[t,t]}){i:TypeInfo}{z:Aq}(y:P.underlying t=H (.slice e))(hi:P.info? e=H i)(A:i.zero=H z)(r:i.size=1)(g:i.bytes=bytes)(ac:z.cells.size=1)(hs:a.eval s=v)(p:w.ownsRow base e 1 v n<|AV n cv){ad:Addr}(c:I)(hx:a.eval x=G (H ad) m c)(l:∀j u,(AV m cv)[j]?=H u->AC w (ad.add j)=H u)(R:cv.oneCell'=AP)(L:0<m)(f:n+m<=maxLen)(k:(n+m)*bytes<=140737488355328)(aa:base<=O (U w))(h:∀b d,d.ownsRow base e 1 b (n+m) (AV (n+m) cv)->JI w d cv->w.grownBy d (Ax v)->(Ax b=Ax v\/Ax b=H (O<|U w))->wpList P ops Q rest (a.put o.dst b) d):wpList P ops Q (o::rest) a w:=by refine LQ ab λae hK=>?_;have F:K (AV m cv)=m*1:=Ba;have N:∀u∈AV m cv,u.oneCell'=AP:=λu hu=>B9;obtain⟨b,d,q,B,S,_⟩:=Re (P:=P) w base t o.type e i z 1 bytes y hi A r g ac B8 v n _ p ad m c _ F l N f k aa;have V:=WQ y hi A r g p F l N L f k q;have W:=qJ y hi A r g p l R L f k q;rw[VB]at B;unfold Oper.wp execOp;simp only[ho,resolve,invoke,builtin,GU,Gf,G0,OF,I8,Mw,hs,hx,q];exact hK _ _<|h b d B W S V
def Ic(V:Ap)(v c:Aq)(lo:AH):Prop:=∃a n cap,v=Ac a n cap/\(n=0\/∃g cur,a=Aa g/\lo<=g/\V.heap[g]?=An (Aj cur 5 (0,0))/\n<=cur.size/\∀j,j<n->cur[j]?=An c)
theorem Ic.marks{c:Aq}(h:Ic V v c lo)(f:JI V V' c):Ic V' v c lo:=by
 obtain⟨a,n,b,rfl,h⟩:=h;refine⟨a,n,b,Z,?_⟩;rcases h with h|⟨g,d,m,o,e,p,q⟩
 .exact AF h
 obtain⟨i,j,k,l⟩:=f.2 g d _ _ e;grind
theorem Ic.a0{c:Aq}(h:V.ownsRow lo 5 1 v n<|AV n c):Ic V v c lo:=by
 rcases h.2 with⟨rfl,rfl⟩|⟨g,b,a,rfl,d,f,i,k,l,m⟩
 .exact⟨Ao,0,0,Z,AF Z⟩
 refine⟨_,n,b,Z,AG ⟨g,a,Z,d,f,E,λj o=>?_⟩⟩;have e:(a.toList.take<|n*1)[j]?=H c:=B9;grind
theorem Qc{c:Aq}(h:V.ownsRow lo 5 1 v n<|AV n c)(m:JI V V' c):V'.ownsRow lo 5 1 v n<|AV n c:=by
 refine⟨h.1,?_⟩;rcases h.2 with a|⟨g,b,d,e,j,a,k,l,q,r⟩
 .exact AF a
 obtain⟨f,i,o,p⟩:=m.2 g d _ _ a;refine AG ⟨g,b,f,e,j,i,k,l,E,?_⟩;apply VS;grind
def Ek(n:AH):AH:=200+n/4%50
def WS(b:n<=9223372036854775807):Ar As 16 #[C Y n] W λe a=>e=Ak (C Am<|Ek n)/\a=W:=by
 go_enter func16,ntmps16;go_wp2;go_ret;refine⟨?_,Z⟩;have e:(200+(n:J)/4%50)=((Ek n:I):J):=by unfold Ek;omega
 rw[<-e];rfl
def Tryz.infoBs:(prog.info? 50).map (λi=>(i.zero,i.size,i.bytes))=H (H<|G Ao 0 0,1,24):=B6
structure Tt(B b0:AH)(cs gv lv:Aq)(N:AH)(xs:AJ Aq)(V:Ap):Prop where
 b:V.heap[B]?=An (Aj #[cs,gv,lv] 31)
 ad:V.ownsRow b0 50 1 lv N xs
 ne:∀g,Ax lv=An g->g≠B
structure Dw(W V:Ap)(X:AH->Prop):Prop where
 os:V.os=W.os
 tape:V.tape=W.tape
 output:V.output=W.output
 size:Au (Av W)<=Au (Av V)
 block:∀j,j<Au (Av W)->¬X j->V.heap[j]?=W.heap[j]?
theorem Dw.refl(W:Ap)(X:I->Prop):Dw W W X:=⟨rfl,rfl,rfl,Cr _,λ_ _ _=>rfl⟩
theorem Dw.next{W V V':Ap}{X:I->Prop}(h:Dw W V X)(a:Dw V V' X):Dw W V' X:=⟨Ca a.os h.os,Ca a.tape h.tape,Ca a.output h.output,CE h.size a.size,λj b c=>Ca (a.block j (CQ b h.size) c)<|h.block j b c⟩
def M1{W V:Ap}{X Y:I->Prop}(h:Dw W V X)(c:∀g,X g->Y g):Dw W V Y:=⟨h.os,h.tape,h.output,h.size,λj a b=>h.block j a λh=>b<|c j h⟩
def Ll{W V:Ap}{X:I->Prop}(h:A0 W V):Dw W V X:=⟨h.os,h.tape,h.output,h.size,λj a _=>Co h j a⟩
def Rz{W V:Ap}{X:I->Prop}{r:Option I}(h:(Az W o).grownBy V r)(b:∀g,r=H g->g<O (U W)->X g):Dw W V X :=
 ⟨h.os,h.tape,h.output,by have:=h.size;simp at this;omega,λj a c=>Ca (h.block j B7 λe=>c<|b j e.symm a)<|CB _ _ _ a⟩
theorem Tu{W:Ap}{X:I->Prop}(hx:X g):Dw W (AB W ⟨g,k,Ao⟩ v) X:=⟨rfl,rfl,rfl,Bd,λj _ a=>CY W _ _ _ B9⟩
theorem tC{x:AU}{xs:A1}(a:bs[i]?=H c)(b:¬(i:J)=lim)(hx:c=x):Dt bs lim (x::xs) i=Dt bs lim xs (i+1):=kfG
def TQ:∀(g p:I) (a:A1) (e:I) (x:A1) (q:I),Cx bs lim p->DA bs lim g p a e=.ok (x,q)->Cx bs lim q
 |0,p,a,e,x,q,_,h=>by rw[DA]at h;cases h
 |g+1,p,a,e,x,q,hi,h=>by
  rw[DA]at h;rcases hc:bs[p]? with _|c
  .rw[hc]at h;cases h
  rw[hc]at h;simp only[]at h;by_cases d:(p:J)=lim
  .rw[Cp d]at h;cases h
  rw[Cl d]at h;have b:=Eu hi hc d;split at h
  .injection h with h;injection h with _ h;subst h;exact b
  split at h
  .rcases he:Ia bs lim (p+1)with f|y
   .rw[he]at h;cases h
   obtain⟨r,q1⟩:=y;rw[he]at h;exact TQ g q1 _ _ x q (eK b he).1 h
  split at h
  .cases h
  split at h
  .cases h
  exact TQ g _ _ _ x q b h
theorem eR{w3:X}{d:A2}{x:J×J}(h:CV k w3 (λj=>O (U w2)<=j/\j<O (U w3)) v d)(e:B<=O (U w2))(f:N+2<O (U w2)):CV k (AD (AD w3 (N+1) y) (N+2)<|Cf x) (λj=>B<=j/\j<O (U<|AD (AD w3 (N+1) y) (N+2)<|Cf x)) v d:=by
 refine h.same (λj c=>⟨E,?a⟩) λj c=>?b
 case a =>
  simp_all
 grind [setRow_other]
def eS(r:A5 AI):AS (AI×AI)<|AM Unit×AH:=match r with
 |.error e=>.error e
 |.ok (z,q)=>.ok (.lit<|.int Al z,q)
def tD{r:A5 J}(h:GI bs lim r<|.error f):GI bs lim (eS r)<|.error f:=by
 rcases h with h|⟨q,_,_,_,x,a⟩
 .rw[h];exact AF Z
 cases a
def tE{r:A5 J}{q:I}(h:GI bs lim r<|.ok (z,q)):GI bs lim (eS r)<|.ok (.lit<|.int Y z,q):=by
 rcases h with h|⟨e,b,c,d,x,a⟩
 .rw[h];exact AF Z
 injection a with a;injection a with h5 h6;subst h6;rw[b];exact AG ⟨q,Z,c,d,_,Z⟩
def NW{F:I->Prop}{d:A2}(h:CV 1 V F v d):CV (k+1) V F v d:=h.ai E
theorem MN{e:Ending}(h:Fc k bs lim W r e W'):A0 W W'/\∃c g n s a i j b p m z F,GI bs lim r c/\e=Ak (Af #[.agg<|Cg g n s (G a i j)<|G b p m,C Y z,.agg<|Cf F])/\(∀d q,c=.ok (d,q)->Cx bs lim q/\z=(q:J)/\F=(0,0)/\CV k W' (λj=>O (U W)<=j/\j<O (U W')) (.agg<|Cg g n s (G a i j)<|G b p m) d)/\(∀f,c=.error f->F=f):=by obtain⟨l,c,o,t⟩:=h;grind
def RS(k:AH)(bs:A1)(lim:AI)(W:Ap)(r:AS (AI×AI)<|AM Unit×AH)(T:A3)(z:AI)(F:AI×AI):Prop :=
 ∀W',A0 W W'->Fc k bs lim W r (Ak<|Af #[.agg T,Ab Al z,.agg<|Cf F]) W'
def RT{n:J}{s:AT}:RS k bs lim W (.error f) (Cg kd n s Cq Cq) z f :=
 λ_ h=>⟨h,.error f,AF rfl,_,_,_,_,_,_,_,_,_,_,rfl⟩
def eT{n:J}{s:AT}{q:I}{dd:A2}(c:Cx bs lim q)(h:∀a,CV 1 a (λj=>O (U W)<=j/\j<O (U a)) (.agg<|Cg kd n s Cq Cq) dd):RS (k+1) bs lim W (.ok (dd,q)) (Cg kd n s Cq Cq) q (0,0) :=
 λa b=>⟨b,.ok (dd,q),AF rfl,c,_,_,_,_,_,_,_,_,_,rfl,NW<|h a⟩
def Xx(fm d:J)(dp:J){R:AS (J×J)<|AM Unit×I}{x:J×J}(q:D5 bs l i 9=x)(r:RS (k+1) bs lim W R Cv 0 x)(b:CN bs l i=AQ\/(CN bs l i=AP/\∃c,bs[i]?=H c/\(∀x,x∈[110,102,116,34,91,123,45]->¬c.toNat=x)/\((c.toNat:J)<48\/57<(c.toNat:J)))):Ar As 90 #[.agg<|Ct bs fm d l,C Y i,C Y dp] W<|Fc (k+1) bs lim W R:=by
 have o:=NK fm d q;have g:=Ln W bs fm d l;have f:=T r;unfold Ct;rcases b with e|⟨e,c,s,t,b|b⟩
 all_goals
  have p:=GJ fm d e
  try
   have y:=Et s;simp only[IA,Mt,My,aD,forall_eq]at t;have A:=Df (c:=c) 110 E;have z:=Df (c:=c) 102 E;have B:=Df (c:=c) 116 E;have L:=Df (c:=c) 34 E;have P:=Df (c:=c) 91 E;have F:=Df (c:=c) 123 E;have N:=Df (c:=c) 45 E
   first
    |have v:AR (48<=(c.toNat:J))=AQ:=B7
    |(have u:48<=(c.toNat:J):=E;have w:AR ((c.toNat:J)<=57)=AQ:=B7)
  go_enter func90,ntmps90
  go_wp2_with(first
   |(go_at_call 116;apply g.ck<|p _;intro Q h j m c2 n)
   |(go_at_call 84;apply h.ck<|o _;intro S a j m c2 n)
   |((with_reducible refine zT 6 _ rfl rfl (O (U W)+1) (Cv) ?_ ?_);exact⟨Z,Z,a.b,thg⟩)
   |((with_reducible refine zF 8 _ rfl rfl (O (U W)+2) x ?_ ?_);exact⟨Z,Z,Gm a CT⟩))
  refine F4 results90 (EO a CT _ _) _ Z Z Z Z<|f _ (EO a CT _ _).2.2
def eU{R:AS (J×J)<|AM Unit×I}(P:bs[i]?=H c)(L:CN bs l i=AP){v:I}{a:Array AU}(Q:c.toNat=v)(t:(v,a,kd)∈([(110,#[110,117,108,108],0),(102,#[102,97,108,115,101],1),(116,#[116,114,117,101],2)]:AJ<|I×Array AU×J))(B:∀V,Ar As 127 #[.agg<|Ct bs fm d l,C Y i,Ae ⟨a⟩] V λe z=>e=Ak (Af #[C Y q,.agg<|Cf F])/\A0 V z)(N:RS (k+1) bs lim W R (Cg kd 0 ⟨#[]⟩ Cq Cq) q F):Ar As 90 #[.agg<|Ct bs fm d l,C Y i,C Y dp] W<|Fc (k+1) bs lim W R:=by
 have aa:=M5 P Q;have A:=GJ fm d L;have x:=Ln W bs fm d l;have u:=T N;unfold Ct at *;simp only[IA,LP,Mt,My]at t;rcases t with h|h|h
 all_goals
  obtain⟨rfl,rfl,rfl⟩:=h
 let kd:J:=0;let b:I:=40;rotate_left
 let kd:J:=1;let b:I:=52;rotate_left
 let kd:J:=2;let b:I:=64;rotate_left
 all_goals
  go_enter func90,ntmps90
  go_wp2_with(first
   |(go_at_call 116;apply x.ck<|A _;intro w2 y c0 c1 c2 c3)
   |(go_at_call 127;apply ck (B _) y.next;intro n r)
   |((with_reducible refine zF _ _ rfl rfl (O<|U n) F ?_ ?_);exact⟨Z,Z,Cj n⟩;apply FA;intro V4 o;have f:=T<|o▸r.next (KP);have w:=T<|o▸CR _ _ _ _ _ _ (Cj _);have p:=T<|Cd r.a;generalize O (U n)=M at *))
  apply Dl (S:=λj=>A7 j M _ 103) (w) B6;intro g;refine tk 0 b (.agg<|Cg kd 0 ⟨#[]⟩ Cq Cq) Z B6 GC (λj s=>by unfold Cg Cq;dsimp only[kd];go_simp) g ?_;apply OY 1 (dst:=(b+1)) (v:=(C Y q)) B6 GC g;apply tk 2 (b+2) _ Z B6 GC (λj s=>yF _ s Z Z) g;have m:=(Do _ (O (U W)+1) M (Cg kd 0 ⟨#[]⟩ Cq Cq)<|AY<|AE p).trans g;refine Ij 3 6 b B6 (f.drew.b) thg m ?_;apply Cb 4 7 (C Y q) m;refine sF 5 8 (b+2) (F:=F) B6 (Gm f.drew CT) (sx (AY<|AE p) m) <| CK ?_;dsimp only[b];go_simp;go_wp2;refine F4 results90 (EO f.drew CT _ _) _ Z Z Z Z<|u _ (EO f.drew CT _ _).2.2
def eV{R:AS (J×J)<|AM Unit×I}(A:bs[i]?=H c)(y:CN bs l i=AP){s:AT}(B:c.toNat=34)(x:∀V,Ar As 128 #[.agg<|Ct bs fm d l,C Y i] V λe v=>e=Ak (Af #[.string s,C Y q,.agg<|Cf F])/\A0 V v)(z:RS (k+1) bs lim W R (Cg 4 0 s Cq Cq) q F):Ar As 90 #[.agg<|Ct bs fm d l,C Y i,C Y dp] W<|Fc (k+1) bs lim W R:=by
 have aa:=M5 A B;have w:=GJ fm d y;have t:=Ln W bs fm d l;have p:=C9 z;unfold Ct at *;go_enter func90,ntmps90
 go_wp2_with(first
  |(go_at_call 116;apply t.ck<|w _;intro w2 u N P c2 Q)
  |(go_at_call 128;apply ck (x _) u.next;intro h n)
  |((with_reducible refine zF _ _ rfl rfl (O<|U h) F ?_ ?_);exact⟨Z,Z,Cj h⟩;apply FA;intro L j;have b:=C9<|j▸n.next (KP);have r:=C9<|j▸CR _ _ _ _ _ _ (Cj _);have m:=C9<|Cd n.a;generalize O (U h)=M at *))
 apply Dl (S:=λf=>A7 f M _ 103) (r) B6;intro a;refine Cb 0 77 (.string s) a <| Ch 1 78 (.agg<|Cg 4 0 s Cq Cq) Z (λf o=>ke3) a <| Cb 2 79 (C Y q) a <| Ch 3 80 (.agg<|Cf F) Z (λf o=>yF _ o Z Z) a ?_;have g:=(Do _ (O (U W)+1) M (Cg 4 0 s Cq Cq)<|AY<|AE m).trans a;refine Ij 4 6 78 (T:=(Cg 4 0 s Cq Cq)) B6 (b.drew.b) thg g <| Cb 5 7 (C Y q) g <| sF 6 8 80 (F:=F) B6 (Gm b.drew CT) (sx (AY<|AE m) g) <| CK ?_;go_simp;go_wp2;refine F4 results90 (EO b.drew CT _ _) _ Z Z Z Z<|p _ (EO b.drew CT _ _).2.2
def Xy{R:AS (J×J)<|AM Unit×I}(n:bs[i]?=H c)(a:CN bs l i=AP)(b:((c.toNat=91\/c.toNat=123)/\∀V,Ar As 129 #[.agg<|Ct bs fm d l,C Y i,C Y dp] V<|Fc (k+1) bs lim V R)\/((c.toNat=45\/(48<=(c.toNat:J)/\(c.toNat:J)<=57))/\∀V,Ar As 130 #[.agg<|Ct bs fm d l,C Y i] V<|Fc (k+1) bs lim V R)):Ar As 90 #[.agg<|Ct bs fm d l,C Y i,C Y dp] W<|Fc (k+1) bs lim W R:=by
 have A:=GJ fm d a;have t:=Ln W bs fm d l;unfold Ct at *;rcases b with⟨b|b,m⟩|⟨b|⟨ac,ad⟩,m⟩
 all_goals
  have q:=T m
  first
   |(have N:=M5 n b)
   |(have N:=Et n;have ag:=Df (c:=c) 110 E;have af:=Df (c:=c) 102 E;have ah:=Df (c:=c) 116 E;have aj:=Df (c:=c) 34 E;have al:=Df (c:=c) 91 E;have ai:=Df (c:=c) 123 E;have ak:=Df (c:=c) 45 E)
  go_enter func90,ntmps90
  go_wp2_with(first
   |(go_at_call 116;apply t.ck<|A _;intro w2 j c0 c1 c2 c3))
  apply (q _).mono;rintro aa w3 o;have P:=Cd j.a;obtain⟨L,r',kk,nn,s,v,S,f,x,p1,m1,z,F,ae,rfl,hA,hF⟩:=MN o;have g:=T<|j.next L;have r:=T o.2;simp only[]
  go_wp2_with(first
   |((with_reducible refine zT 6 _ rfl rfl (O (U W)+1) (Cg kk nn s (G v S f)<|G x p1 m1) ?_ ?_);exact⟨Z,Z,g.b,thg⟩)
   |((with_reducible refine zF 8 _ rfl rfl (O (U W)+2) F ?_ ?_);exact⟨Z,Z,Gm g CT⟩))
  refine F4 results90 (EO g CT _ _) (.int _ z) Z Z Z Z ⟨(EO g CT _ _).2.2,?_⟩;obtain⟨p,a,h⟩:=AE r;refine⟨p,a,?_⟩;obtain ab|am:=p
  .exact h
  obtain⟨a,y,n',s',u,Q,e,w,p',m',h,B⟩:=h;exact⟨a,y,n',s',u,Q,e,w,p',m',h,eR B j.ac.size P⟩
def IR(k:AH)(V:Ap)(b:AH)(u:Aq)(ex:AH->Prop)(ds:AJ<|AM Unit):Prop :=
 ∃xs,V.ownsRow b 101 5 u (At ds) xs/\∀(i:AH) (d:A2),ds[i]?=An d->∃a,Hu xs i a/\CV k V (λj=>b<=j/\j<Au (Av V)/\An j≠Ax u/\¬ex j) (.agg a) d
theorem En{size:I}(c:W.ownsRow base e size v n xs)(h:Ax v=H g):g<O (U W):=by
 rcases c.2 with⟨a,_⟩|⟨i,d,f,rfl,_,b,_⟩
 .subst a;cases h
 cases h;exact Cd b
def TR{size:I}(h:V.ownsRow b t size u n xs)(l:∀j,b<=j->j<O (U V)->V'.heap[j]?=V.heap[j]?):V'.ownsRow b t size u n xs:=by
 refine⟨h.1,?_⟩;rcases h.2 with i|⟨g,d,f,e,a,c,k⟩
 .exact AF i
 exact AG ⟨g,d,f,e,a,Ca (l g a<|Cd c) c,k⟩
theorem IR.next(h:IR k V b u ex ds)(p:O (U V)<=O (U V'))(e:∀j,b<=j->j<O (U V)->V'.heap[j]?=V.heap[j]?):IR k V' b u ex ds:=by obtain⟨o,l,m⟩:=h;refine⟨o,TR l e,λi d n=>?_⟩;obtain⟨a,f,g⟩:=m i d n;exact⟨a,f,g.same (λj c=>⟨c.1,AY c.2.1,c.2.2⟩) λj c=>e j c.1 c.2.1⟩
theorem Xz{ys:AJ Aq}(b:K xs=n*5)(hi:i<n)(h:Hu xs i a):Hu (xs++ys) i a:=by grind [Hu]
theorem XA(c:K xs=n*5)(b:a.size=5):Hu (xs++a.toList) n a:=by grind [Hu,List.take_of_length_le]
theorem IR.push{d:A2}(m:V.ownsRow b 101 5 u (K ds) xs)(y:∀(i:I) (d:A2),ds[i]?=H d->∃a,Hu xs i a/\CV k V (λj=>b<=j/\j<O (U V)/\H j≠Ax u/\¬ex j) (.agg a) d)(B:CV k V (λj=>L<=j/\j<O (U V)) (.agg a) d)(F:∀g,Ax u=H g->g<L)(hb:b<=L)(A:∀j,L<=j->¬ex j)(z:a.size=5)(P:w5.ownsRow b 101 5 v' (K ds+1)<|xs++a.toList)(n:(Az V o).grownBy w5<|Ax u)(h:Ax v'=Ax u\/Ax v'=H (O<|U<|Az V o)):IR k w5 b v' ex<|ds++[d]:=by
 have N:O (U V)+1<=O (U w5):=BZ;have q:=λj c l=>Ca (n.block j B7 l)<|CB _ _ _ c;have r:∀j,j<O (U V)->H j≠Ax u->H j≠Ax v':=λj c l=>by
  rcases h with h|h
  .rw[h];exact l
  rw[h];intro e;injection e with e;simp at e;omega
 refine⟨xs++a.toList,B9,λi v f=>?_⟩;by_cases p:i<K ds
 .rw[Hh p]at f;obtain⟨t,w,x⟩:=y i v f;exact⟨t,Xz m.1 p w,x.same (λj c=>⟨c.1,AY c.2.1,r j c.2.1 c.2.2.1,c.2.2.2⟩) λj c=>q j c.2.1 c.2.2.1⟩
 have e:i=K ds:=B9;subst e;rw[Jd<|Cr _,Rg]at f;injection f with f;subst f;have s:∀j,L<=j->H j≠Ax u:=λj c e=>B9;exact⟨a,XA m.1 z,B.same (λj c=>⟨AY c.1,AY c.2,r j c.2<|s j c.1,A j c.1⟩) λj c=>q j c.2<|s j c.1⟩
def IR.ac(h:IR k V b u ex ds)(q:B<=b):CV (k+1) V (λj=>B<=j/\j<O (U V)) (.agg<|Cg 6 0 ⟨#[]⟩ Cq u)<|.agg ds:=by obtain⟨p,l,m⟩:=h;refine⟨u,p,Z,P6 l λg r o=>⟨E,o⟩,λi d n=>?_⟩;obtain⟨a,e,f⟩:=m i d n;exact⟨a,e,f.same (λj c=>⟨AY c.1,c.2.1⟩) λ_ _=>rfl⟩
def XB:IR k V b Cq ex []:=⟨[],Fi _ _ _ _,λi d h=>BB⟩
def Ql{α:Type}(bs:A1)(lim:AI)(itF:α->AH->A5 α)(last g p1:AH)(acc:α):A5 α:=match itF acc p1 with
   |.error e=>.error e
   |.ok (acc',p2)=>match DW bs lim (At bs+1-p2) p2 with
    |.error e=>.error e
    |.ok (_,p3)=>match bs[p3]? with
     |none=>.error (9,p3)
     |some c=>if(p3:AI)=lim then .error (8,p3)else if c.toNat=last then .ok (acc',p3+1)else if c.toNat=44 then FU bs lim itF last g (p3+1) acc' else .error (9,p3)
def eW{α:Type}(bs:A1)(lim:J)(itF:α->I->A5 α)(last g p:I)(acc:α):FU bs lim itF last (g+1) p acc=match DW bs lim (K bs+1-p) p with
  |.error e=>.error e
  |.ok (_,p1)=>Ql bs lim itF last g p1 acc:=by
 rw[FU];rfl
def Pa{α:Type}(bs:A1)(lim:AI)(itF:α->AH->A5 α)(last g p:AH)(acc:α)(R:A5 α):Prop :=
 Cx bs lim p/\((∃g',g=g'+1/\Ql bs lim itF last g' p acc=R)\/((p:AI)=lim/\p<At bs/\R=.error (8,(p:AI))))
def eX{α:Type}(hl:Lm bs l lim){itF:α->I->A5 α}{acc:α}{R:A5 α}(hi:Cx bs lim p)(a:FU bs lim itF last (g+1) p acc=R):Pa bs lim itF last (g+1) (EG bs l (K bs+1-p) p) acc R:=by
 rw[eW]at a;rcases MI hl (K bs+1-p) p hi with⟨q,b,c,d,e,_⟩|⟨q,b,c,d,e⟩
 .rw[b]at a;rw[c];exact⟨d,AF ⟨g,Z,a⟩⟩
 rw[b]at a;rw[c];exact⟨⟨E,E⟩,AG ⟨d,e,a.symm⟩⟩
structure Pb(W:Ap)(B b0 base S:AH)(c cs gv:Aq)(la0 o0:Option AH)(vs:AJ Aq)(lv:Aq)(N:AH)(xs:AJ Aq)(V:Ap):Prop where
 b:Tt B b0 cs gv lv N xs V
 ad:Dw W V (λj=>j=B\/An j=la0\/An j=o0\/Au (Av W)<=j)
 all:∀v∈vs,Ic V v c base/\∀g,Ax v=An g->base<=g/\g<S
 rb:∀g,Ax lv=An g->An g=la0\/S<=g
 a:S<=Au (Av V)/\base<=S/\B<base/\Au (Av W)<=S
 lb:∀g,la0=An g->g<base
def NX{size:I}(h:V.ownsRow b t size u n xs)(l:∀j,Ax u=H j->V'.heap[j]?=V.heap[j]?):V'.ownsRow b t size u n xs:=by
 refine⟨h.1,?_⟩;rcases h.2 with d|⟨g,a,c,e,i,k,f⟩
 .exact AF d
 exact AG ⟨g,a,c,e,i,Ca (l g kfs) k,f⟩
def Ic.aq{c:Aq}(h:Ic V v c lo)(k:∀g,Ax v=H g->V'.heap[g]?=V.heap[g]?):Ic V' v c lo:=by
 obtain⟨a,n,b,rfl,h⟩:=h;refine⟨a,n,b,Z,?_⟩;rcases h with h|⟨g,d,rfl,e,f,i,j⟩
 .exact AF h
 exact AG ⟨g,d,Z,e,Ca (k g Z) f,i,j⟩
theorem Pb.ai{c lv':Aq}{la0:Option I}(h:Pb W B b0 base S c cs gv la0 o0 vs lv N xs V)(p:V'.ownsRow b0 50 1 lv' (N+1)<|xs++[u])(d:(Az V o).grownBy V'<|Ax lv)(q:Ax lv'=Ax lv\/Ax lv'=H (O<|U<|Az V o)):Pb W B b0 base S c cs gv la0 o0 vs lv' (N+1) (xs++[u])<|AB V' ⟨B,2,Ao⟩ lv':=by
 have x:=Cd h.b.b;have L:O (U V)+1<=O (U V'):=B2 d.size;have l:=λj f y=>Ca (d.block j B7 y)<|CB _ _ _ f;have z:H B≠Ax lv:=λe=>h.b.ne B e.symm Z;have w:=Ca (l B x z) h.b.b;have n:∀j,j≠B->(AB V' ⟨B,2,Ao⟩ lv').heap[j]?=V'.heap[j]?:=λj f=>CY V' _ _ _ keR;have m:∀g,Ax lv'=H g->g≠B:=λg e=>by
  rcases q with a|a
  .grind
  rw[a]at e;injection e with e;simp at e;omega
 have A:O (U<|AB V' ⟨B,2,Ao⟩ lv')=O (U V'):=Bd;refine⟨⟨?_,?_,m⟩,?_,λv i=>⟨?_,(h.all v i).2⟩,λg e=>?_,⟨by rw[A];have:=h.a;omega,h.a.2⟩,h.lb⟩
 .rw[DX _ _ _ _ _ _ w];rfl
 .refine⟨p.1,?_⟩;rcases p.2 with b|⟨g,r,s,e,a,b,k⟩
  .exact AF b
  exact AG ⟨g,r,s,e,a,Ca (n g<|m g kfs) b,k⟩
 .refine(h.ad.next<|Rz d λg e F=>?_).next (Tu<|AF rfl)
  rcases h.rb g e with a|a
  .exact AG<|AF a
  exact AG<|AG<|AG<|AY h.a
 .refine(h.all v i).1.aq λg e=>?_;have k:=(h.all v i).2 g e;rw[n g<|AY h.a];refine l g (AY h.a) λt=>?_;rcases h.rb g t.symm with a|a
  .have:=h.lb g a.symm;omega
  omega
 rcases q with a|a
 .exact h.rb g<|Ca a.symm e
 rw[a]at e;injection e with e;simp at e;right;have:=h.a;omega
theorem tF{c:Aq}(a:Tt B b0 cs gv lv N xs W)(hF:Dw W V λj=>H j=o0)(d:∀g,o0=H g->base<=g)(i:B<base)(b:∀g,Ax lv=H g->g<base)(k:base<=O (U W))(m:∀v∈vs,∃n,V.ownsRow base 5 1 v n<|AV n c):Pb W B b0 base (O<|U V) c cs gv (Ax lv) o0 vs lv N xs V:=by refine⟨⟨Ca (hF.block B E λe=>AY<|d B e.symm) a.b,NX a.ad λj e=>hF.block j (En a.ad e) λf=>B3 (b j e)<|d j f.symm,a.ne⟩,M1 hF λj h=>AG<|AG<|AF h,λv l=>?_,λg e=>AF e.symm,⟨Cr _,AY hF.size,i,hF.size⟩,b⟩;grind [Ic.a0,DK,En]
theorem tG{n0 n1 n2 n3:I}{c v0 v1 v2 v3:Aq}(a:V.ownsRow base 5 1 v0 n0<|AV n0 c)(b:V.ownsRow base 5 1 v1 n1<|AV n1 c)(d:V.ownsRow base 5 1 v2 n2<|AV n2 c)(e:V.ownsRow base 5 1 v3 n3<|AV n3 c):∀v∈[v0,v1,v2,v3],∃n,V.ownsRow base 5 1 v n<|AV n c:=λv f=>B9
theorem TS{w:X}{cs:A3}(h:O (U w)=n):∀(j:I) (u:Aq),cs.toList[j]?=H u->(Az w<|M cs t).cell? ((⟨n,0,Ao⟩:Addr).add j)=H u:=by grind [EU]
def TT{a:A4}{c:I}(h:v=G a n c):∀u∈[v],u.oneCell'=AP:=λu b=>by simp at b;subst b;subst h;rfl
theorem Qm(h:V.ownsRow base t 1 v n xs):∃a c,v=G a n c:=by rcases h.2 with⟨rfl,rfl⟩|⟨g,b,d,rfl,_⟩<;>grind
theorem eY{ad:A4}{cap:I}{l:A1}{en:J}(hW:Tt B b0 cs gv (G la N lcap) N xs W)(bf:B<base)(bk:∀g,Ax (AX la N lcap)=H g->g<base)(bw:b0<=O (U W))(ao:base<=O (U W))(hN:N<=1000000000)(hO:Cn W base (G ad (K l) cap) l)(hl:K l<=200000000)(he:ad.isNone=AP\/en=0):Ar As 22 #[A8 B,G ad (K l) cap,Ae ⟨Aw l⟩,C Y en] W λe u=>e=Ak (Ah AP)/\∃bd bn x F y c2 A L,Pb W B b0 base bd (C Am<|Ek N) cs gv (Ax<|AX la N lcap) (Ax<|AX ad (K l) cap) [G ad (K l) cap,G x (K l+1) F,G y (K l+2) c2,G A (K l+3) L] bn (N+4) (xs++[G ad (K l) cap,G x (K l+1) F,G y (K l+2) c2,G A (K l+3) L]) u:=by
 obtain⟨i0,ag,ah,ai,aj⟩:=DL Tryz.infoU8;obtain⟨bi,v,R,z,S⟩:=DL Tryz.infoBs;have bc:=T hW;have m:A6 W B 2<|G la N lcap:=Cc hW.b 2;have cM:∀af,Ar As 16 #[C Y N] af λe u=>e=Ak (C Am<|Ek N)/\af=u:=λaf=>Ce (WS E) λe u h=>⟨h.1,h.2.symm⟩
 have a6:=T bk;have be:B<O (U W):=E;have bx:=Rt hO;have HO:=T hO.1;have b2:=λw=>Mo (P:=As) w 50 5 ad (K l) cap 0 0 underlying50;generalize hb:ad.isNone=b at *;cases b
 case' false=>obtain rfl:en=0:=by simpa using he
 all_goals
  clear hb he;go_enter func22,ntmps22
  go_wp2_with(first
   |(go_at_call 16;refine Ce (cM _) ?_;rintro e w1 ⟨rfl,rfl⟩))
  go_loopg[11] (K l) (λgh bu wr=>∃k:I,bu=C Y k/\D (k+gh=K l)/\D (Dw W wr λj=>H j=Ax (AX ad (K l) cap))/\D ((ad=Ao/\K l=0/\cap=0)\/∃g c,ad=Aa g/\A7 wr g c 5/\c.size=cap/\K l<=cap/\cap<=maxLen/\base<=g/\∀j,j<k->c[j]?=H (C Am<|Ek N)))
  .refine⟨0,Z,Gg _,Dw.refl _ _,?_⟩;rcases HO.2 with⟨h,h2⟩|⟨g',bv,c,e,h1,h2,h3,h4,h5,_⟩
   .exact AF B9
   exact AG B9
  obtain⟨k,rfl,hg,t,s⟩:=hrel;obtain _|gh:=gk
  .have bz:¬(k:J)<(K l:J):=AY<|AE hg;have ab:D<|wr.ownsRow base 5 1 (G ad (K l) cap) (K l)<|AV (K l)<|C Am<|Ek N:=by
    rcases AE s with⟨rfl,h,rfl⟩|⟨g,c,rfl,Q,r⟩
    .rw[h];exact Fi _ _ _ _
    refine⟨Ba,AG ⟨g,cap,c,Z,r.2.2.2.1,Q,r.2.1,r.2.2.1,by grind [D],?_⟩⟩;apply VS;grind [D]
   have ac:=T<|OL (CE ao t.size)<|CQ be t.size;have a0:=t;have m:=trivial
   go_wp2_with(first
    |(at_builtin;(refine WR Z Z underlying50 ag ah ai aj Z Z (ab.alloc _) 1 Z (EU) Z B8 Bc E (B0<|AE ac) ?_);intro v1 y1 ar bl bg b3;have am:=T<|Qc ab<|(Ry).trans bl;have ax:=T ar;have V:=T<|Rz bg λg e _=>e.symm;have ae:D<|base<=O (U y1)/\B<O (U y1):=⟨B3 (AE ac) V.size,B3 (AE ac) V.size⟩;obtain⟨x,F,rfl⟩:=Qm ar;have m:=trivial)
    |(at_builtin;(refine WR Z Z underlying50 ag ah ai aj Z Z (am.alloc _) 2 Z (EU) Z B8 Bc E (B0<|AE ae) ?_);intro v2 y2 au ap bh b4;have an:=T<|Qc am<|(Ry).trans ap;have ay:=T au;have a7:=T<|(Ry).trans ap;have aa:=T<|Rz bh λg e _=>e.symm;have bb:D<|base<=O (U y2)/\B<O (U y2):=⟨B3 (AE ae) aa.size,B3 (AE ae) aa.size⟩;obtain⟨y,c2,rfl⟩:=Qm au;have m:=trivial)
    |(at_builtin;(refine WR Z Z underlying50 ag ah ai aj Z Z (an.alloc _) 3 Z (EU) Z B8 Bc E (B0<|AE bb) ?_);intro v3 y3 av aq bj b5;have ba:=T<|Qc an<|(Ry).trans aq;have az:=T av;have al:=T<|(Ry).trans aq;have a4:=T<|Rz bj λg e _=>e.symm;obtain⟨A,L,rfl⟩:=Qm av;have m:=trivial;have i:=T<|tF bc (((a0.next V).next aa).next a4) (λg e=>DK ab e) bf a6 ao λak hv=>tG (ba) (Qc (Qc ax a7) al) (Qc ay al) az ak hv;obtain⟨vs,aw⟩:∃vs:AJ Aq,vs=[G ad (K l) cap,G x (K l+1) F,G y (K l+2) c2,G A (K l+3) L]:=⟨_,rfl⟩;rw[<-aw]at i;have m:A6 y3 B 2<|G la N lcap:=Cc i.b.b 2)
    |(at_builtin;(refine JH Z Z underlying29 v R z S Z B8 Z (i.b.ad.alloc _) 1 1 Z Z (EU) (TT Z) B8 Bc E (B0 i.ad.size) ?_);intro r1 x0 f d q;obtain⟨br,bo,rfl⟩:=ownsRow_succ f;have n:=T<|i.ai f d q;have a:=T<|Ca (d.block B (B0<|Cd i.b.b) λe=>i.b.ne B e.symm Z)<|Ca (CB _ _ _<|Cd i.b.b) i.b.b;have m:A6 x0 B 2<|G la N lcap:=Cc a 2;have f2:=Dy x0 B 2 _ _ a)
    |(at_builtin;(refine JH Z Z underlying29 v R z S Z B8 Z (n.b.ad.alloc _) 1 1 Z Z (TS Bd) (TT Z) B8 Bc E (by have:=n.ad.size;simp[World.setCell]at this ⊢;omega) ?_);intro r2 x1 f d q;obtain⟨bs,bp,rfl⟩:=ownsRow_succ f;have o:=T<|n.ai f d q;have a:=T (Ca (d.block B (by have:=Cd n.b.b;simp[World.setCell]at this ⊢;omega) λe=>n.b.ne B e.symm rfl)<|Ca (CB _ _ _<|Cd n.b.b) n.b.b);have m:A6 x1 B 2<|G (Aa br) (N+1) bo:=Cc a 2;have f2:=Dy x1 B 2 _ _ a)
    |(at_builtin;(refine JH Z Z underlying29 v R z S Z B8 Z (o.b.ad.alloc _) 1 1 Z Z (TS Bd) (TT Z) B8 Bc E (by have:=o.ad.size;simp[World.setCell]at this ⊢;omega) ?_);intro r3 x2 f d q;obtain⟨bt,bq,rfl⟩:=ownsRow_succ f;have p:=T<|o.ai f d q;have a:=T (Ca (d.block B (by have:=Cd o.b.b;simp[World.setCell]at this ⊢;omega) λe=>o.b.ne B e.symm rfl)<|Ca (CB _ _ _<|Cd o.b.b) o.b.b);have m:A6 x2 B 2<|G (Aa bs) (N+1+1) bp:=Cc a 2;have f2:=Dy x2 B 2 _ _ a)
    |(at_builtin;(refine JH Z Z underlying29 v R z S Z B8 Z (p.b.ad.alloc _) 1 1 Z Z (TS Bd) (TT Z) B8 Bc E (by have:=p.ad.size;simp[World.setCell]at this ⊢;omega) ?_);intro r4 x3 f d q;obtain⟨b7,b6,rfl⟩:=ownsRow_succ f;have a5:=T<|p.ai f d q;have a:=T (Ca (d.block B (by have:=Cd p.b.b;simp[World.setCell]at this ⊢;omega) λe=>p.b.ne B e.symm rfl)<|Ca (CB _ _ _<|Cd p.b.b) p.b.b);have m:A6 x3 B 2<|G (Aa bt) (N+1+1+1) bq:=Cc a 2;have f2:=Dy x3 B 2 _ _ a))
   go_ret;have hK:=AE a5;have e:∀(u0 u1 u2 u3:Aq),(((xs++[u0])++[u1])++[u2])++[u3]=xs++[u0,u1,u2,u3]:=λ_ _ _ _=>Ba;rw[e,aw]at hK;exact⟨Z,_,_,_,_,_,_,_,_,hK⟩
  have b1:(k:J)<(K l:J):=AY<|AE hg;obtain⟨g,c,rfl,Q,r⟩:=s.resolve_left λh=>AY<|AE hg;have HC:=T Q;have s:=T r;clear Q r;obtain⟨v0,bm⟩:∃ak,c[k]?=H ak:=⟨_,SO<|AY<|AE s⟩
  have k0:=Ca (Cc HC k) bm;have f0:=Dy wr g k _ _ HC;have HN:D<|(AB wr ⟨g,k,Ao⟩<|C Am<|Ek N).heap[g]?=H (M (Ay c k<|C Am<|Ek N) 5):=by grind [D,heap_setCell_same]
  have a9:D<|Dw W (AB wr ⟨g,k,Ao⟩<|C Am<|Ek N) λj=>H j=Ax (AX (Aa g) (K l) cap):=t.next<|Tu rfl
  have a8:D ((Ay c k<|C Am<|Ek N).size=cap/\K l<=cap/\cap<=maxLen/\base<=g/\∀j,j<k+1->(Ay c k<|C Am<|Ek N)[j]?=H (C Am<|Ek N)):=by grind [D]
  go_wp2;go_roundg gh;exact⟨k+1,Bb,B9,a9,AG ⟨g,_,Z,HN,a8⟩⟩;omega
structure M8(V:Ap)(B:AH)(la:A4)(N lcap:AH)(xs:AJ Aq)(mc:AH->AH):Prop where
 w2:AC V ⟨B,2,Ao⟩=An (Ac la N lcap)
 len:At xs=N
 ad:∀(i:AH) (v:Aq),xs[i]?=An v->∃gr,la=Aa gr/\AC V ⟨gr,i,Ao⟩=An v
 all:∀(i:AH) (v:Aq),xs[i]?=An v->Ic V v (Ab Am (mc i)) 0
structure Ki(W V:Ap):Prop where
 heap:V.heap=W.heap
 os:V.os=W.os
 tape:V.tape=W.tape
 output:V.output=W.output
theorem Ki.refl(W:X):Ki W W:=⟨rfl,rfl,rfl,rfl⟩
theorem Ki.drew(h:Ki W V):Ki W V.drew:=⟨h.heap,h.os,h.tape,h.output⟩
def Ki.ac(h:Ki W V):A0 W V:=⟨h.os,h.tape,h.output,by rw[h.heap];exact Cr _,λj _=>by rw[h.heap]⟩
def Ki.cell(h:Ki W V)(a:Addr):AC V a=AC W a:=Je (by rw[h.heap])
def XC(h:V.heap=W.heap){a:Addr}:AC V a=AC W a:=Je (by rw[h])
theorem M8.aq(h:M8 V B la N lcap xs mc)(hi:i<N):∃gr a n b,la=Aa gr/\A6 V gr i (G a n b)/\xs[i]?=H (G a n b)/\∀j,j<n->∃g,a=Aa g/\A6 V g j (C Am<|mc i):=by
 obtain⟨v,c⟩:∃v,xs[i]?=H v:=⟨_,D7<|by rw[h.len];exact hi⟩
 obtain⟨gr,d,e⟩:=h.ad i v c;obtain⟨a,n,b,rfl,f⟩:=h.all i v c;grind [Cc]
theorem tH(h:M8 W B la N lcap xs Ek)(hN:N<=1000000000)(R:∀(i:I) (a:A4) (n c:I),xs[i]?=H (AX a n c)->n<=1000000000):Ar As 7 #[A8 B] W λe m=>e=Ak (Ah AP)/\Ki W m:=by
 have F:=T h;have y:=T R;have o:=h.w2;go_enter func7,ntmps7;go_wp2
 go_loopg[3] N (λg aa wr=>∃i:I,aa=C Y i/\D (i+g=N)/\D (Ki W wr))
 grind [Ki.refl];obtain⟨i,rfl,t,l⟩:=hrel;have x:=(l.cell _).trans o;obtain _|g:=gk
 .have ac:¬(i:J)<(N:J):=AY<|AE t;go_wp2;go_ret;exact⟨Z,l⟩
 have ae:(i:J)<(N:J):=AY<|AE t;obtain⟨gr,a,n,r,rfl,q,hx,z⟩:=F.aq (i:=i) E;have ag:=y.out i a n r hx;have A:=T z;have L:∀V,Ar As 16 #[C Y i] V λe m=>e=Ak (C Am<|Ek i)/\V=m:=λV=>(WS (n:=i) E (W:=V)).mono λe m h=>⟨h.1,h.2.symm⟩
 have x:=(l.cell _).trans o;have r1:=(l.cell _).trans q;go_wp2
 go_loopg[4] n (λp zj wj=>∃j:I,zj=C Y j/\D (j+p=n)/\D (Ki W wj))
 grind;obtain⟨j,rfl,u,k⟩:=hrel;have x:=(k.cell _).trans o;have r1:=(k.cell _).trans q;obtain _|p:=gk
 .have ad:¬(j:J)<(n:J):=AY<|AE u;go_wp2;go_roundg g;exact⟨i+1,Bb,B9,k⟩;omega
 have af:(j:J)<(n:J):=AY<|AE u;obtain⟨s,rfl,Q⟩:=A.out j E;go_wp2;refine Dl (S:=λd=>d.heap=W.heap) (k.heap) B6 λf=>IC (i:=0) (v:=A8 B) (H 26) Z B6 B6 B6 (λ_ _ _ h=>h) B6 (AF ⟨B6,λd b=>B6⟩) f <| IC (i:=1) (v:=A8 B) (H 27) Z B6 B6 B6 (λ_ _ _ h=>h) B6 (AF ⟨B6,λd b=>Bh⟩) f <| IC (i:=2) (v:=A9 B 2) (H 28) Z B6 B6 B6 (λ_ _ _ h=>h) B6 (AF ⟨B6,λd b=>Bh⟩) f <| IC (i:=3) (v:=G (Aa gr) N lcap) (H 29) Z B6 B6 B6 (λ_ _ _ h=>h) B6 (AF ⟨B6,λd b=>(by have w:=(XC b).trans o;go_simp)⟩) f <| IC (i:=4) (v:=C Y i) (H 30) rfl B6 B6 B6 (λ_ _ _ h=>h) B6 (AF ⟨B6,λd b=>B6⟩) f <| IC (i:=5) (v:=A9 gr i) (H 31) rfl B6 B6 B6 (λ_ _ _ h=>h) B6 (AF ⟨B6,λd b=>Bh⟩) f <| IC (i:=6) (v:=G (Aa s) n r) (H 32) rfl B6 B6 B6 (λ_ _ _ h=>h) B6 (AF ⟨B6,λd b=>(by have w:=(XC b).trans q;go_simp)⟩) f <| IC (i:=7) (v:=C Y j) (H 33) rfl B6 B6 B6 (λ_ _ _ h=>h) B6 (AF ⟨B6,λd b=>B6⟩) f <| IC (i:=8) (v:=A9 s j) (H 34) rfl B6 B6 B6 (λ_ _ _ h=>h) B6 (AF ⟨B6,λd b=>Bh⟩) f <| IC (i:=9) (v:=C Am<|Ek i) (H 35) rfl B6 B6 B6 (λ_ _ _ h=>h) B6 (AF ⟨B6,λd b=>(by have w:=(XC b).trans Q;go_simp)⟩) f <| IC (i:=10) (v:=C Y i) (H 36) rfl B6 B6 B6 (λ_ _ _ h=>h) B6 (AF ⟨B6,λd b=>B6⟩) f <| CH 11 λab P=>?_;go_simp;refine(L _).mono ?_;rintro e w9 ⟨rfl,rfl⟩;simp only[];refine P.out _ _ f λ_=>?_;refine IC (i:=12) (v:=Ah AQ) (H 38) Z B6 B6 B6 (λ_ _ _ h=>h) B6 (AF ⟨B6,λd b=>Bh⟩) f <| CK ?_;go_simp;go_wp2;go_roundg p;exact⟨j+1,Bb,B9,k.drew⟩;omega
def MO(xs:AJ Aq)(n g:AH):Prop:=∃i v,n<=i/\i<n+4/\xs[i]?=An v/\Ax v=An g
def Qn{W V:Ap}{X:I->Prop}(h:Dw W V X){a:Addr}(hb:a.block<O (U W))(hx:¬X a.block):AC V a=AC W a:=Je<|h.block _ hb hx
theorem tI{c:Aq}(b:A7 V g cur t)(i:k<cur.size):JI V (AB V ⟨g,k,Ao⟩ c) c:=by
 refine⟨Bd,λa d l f h=>?_⟩;by_cases e:a=g
 .subst e;rw[b]at h;injection h with h;injection h with h1 h2 h3;subst h1;subst h2;subst h3;refine⟨Ay cur k c,by grind [heap_setCell_same],Ba,λj=>?_⟩;grind
 grind [heap_setCell_other]
theorem eZ(h:M8 W B la N lcap xs mc)(hn:n+4<=N)(hN:N<=1000000000)(ao:∀(i:I) (a:A4) (n c:I),xs[i]?=H (AX a n c)->n<=1000000000)(hdis:∀(i:I) (v:Aq) (g:I),xs[i]?=H v->Ax v=H g->g≠B/\∀gr,la=H ⟨gr,0,Ao⟩->g≠gr)(c:I):Ar As 17 #[.pointer<|H ⟨B,0,Ao⟩,C Y n,C Am c] W λe y=>e=Ak (Af #[])/\JI W y (C Am c)/\Dw W y (MO xs n)/\∀(i:I) (v:Aq),n<=i->i<n+4->xs[i]?=H v->Ic y v (C Am c) 0:=by
 have Q:=T h;have ag:=T ao;have HD:=T hdis;have L:=h.w2;have aa:=Fk L;have R:D<|¬MO xs n B:=λ⟨i,v,_,_,f,l⟩=>(hdis i v B f l).1 Z;go_enter func17,ntmps17;go_wp2
 go_loopg[6] 4 (λg au wr=>∃i:I,au=C Y i/\D (i+g=n+4/\n<=i)/\D (Dw W wr<|MO xs n)/\D (JI W wr<|C Am c)/\D (∀(d:I) (v:Aq),n<=d->d<i->xs[d]?=H v->Ic wr v (C Am c) 0))
 grind [D,Dw.refl,Ts];obtain⟨i,rfl,s,q,u,w⟩:=hrel;obtain _|g:=gk
 .have ax:¬(i:J)<(n:J)+4:=AY<|AE s;have t:D (∀(i:I) (v:Aq),n<=i->i<n+4->xs[i]?=H v->Ic wr v (C Am c) 0):=λd v f l o=>w.out d v f (AY<|AE s) o;go_wp2;go_end0;grind [D]
 have a1:(i:J)<(n:J)+4:=AY<|AE s;have az:(i:J)<(N:J):=E;have ac:n<=i/\i<n+4:=AY<|AE s;obtain⟨gr,a,m,z,rfl,F,P,av⟩:=Q.out.aq (i:=i) E;have a3:=ag.out i a m z P;have V:=T P;have ae:=Fk F;have S:D<|¬MO xs n gr:=λ⟨i,v,_,_,f,l⟩=>(HD.out i v gr f l).2 gr Z Z;obtain⟨_,_,_,am,an⟩:=Q.out.all i _ P;cases am;have af:D (m=0\/∃g b,a=H ⟨g,0,Ao⟩/\W.heap[g]?=H (M b 5 (0,0))/\m<=b.size):=an.imp_right λ⟨g,b,f,_,l,o,_⟩=>⟨g,b,f,l,o⟩
 have w2:=Ca (Qn q.out aa R.out) L;have r1:=Ca (Qn q.out ae S.out) F;go_wp2
 go_loopg[7] m (λA zj wr=>∃j:I,zj=C Y j/\D (j+A=m)/\D (Dw W wr<|MO xs n)/\D (JI W wr<|C Am c)/\D (∀(d:I) (v:Aq),n<=d->d<i->xs[d]?=H v->Ic wr v (C Am c) 0)/\D (j=0\/∃g b,a=H ⟨g,0,Ao⟩/\wr.heap[g]?=H (M b 5 (0,0))/\m<=b.size/\∀p,p<j->b[p]?=H (C Am c)))
 grind;obtain⟨j,rfl,ab,q,u,w,HJ⟩:=hrel;have w2:=Ca (Qn q.out aa R.out) L;have r1:=Ca (Qn q.out ae S.out) F;obtain _|A:=gk
 .have ay:¬(j:J)<(m:J):=AY<|AE ab;have t:D (∀(d:I) (v:Aq),n<=d->d<i+1->xs[d]?=H v->Ic wr v (C Am c) 0):=λd v f l o=>by
   by_cases e:d=i
   .subst e;rw[AE V]at o;injection o with o;subst o;refine⟨a,m,z,Z,?_⟩;grind [D]
   grind [D]
  go_wp2;go_roundg g;exact⟨i+1,Bb,⟨AY<|AE s,E⟩,q,u,t⟩;omega
 have a2:(j:J)<(m:J):=AY<|AE ab;obtain⟨r,b,rfl,ap,aq,aw⟩:∃g b,a=H ⟨g,0,Ao⟩/\wr.heap[g]?=H (M b 5 (0,0))/\m<=b.size/\∀p,p<j->b[p]?=H (C Am c):=by
  rcases AE af with h|⟨g,b,f,l,o⟩
  .omega
  subst f;rcases AE HJ with h|⟨g',al,h4,h5,h6,h7⟩
  .obtain⟨al,e1,e2,_⟩:=u.out.2 g b _ _ l;grind
  grind
 have x:=T ap;obtain⟨v0,ar⟩:∃v,b[j]?=H v:=⟨_,SO E⟩
 have k0:=Ca (Cc x.out j) ar;have f0:=Dy wr r j _ _ x.out;have ak:D<|MO xs n r:=⟨i,_,ac.1,ac.2,AE V,Z⟩
 have ah:D<|Dw W (AB wr ⟨r,j,Ao⟩<|C Am c)<|MO xs n:=q.out.next<|Tu ak.out
 have ad:=tI (c:=C Am c) x.out (k:=j) E;have aj:=T<|u.out.trans ad;have t:=T λd v f l o=>(w.out d v f l o).marks ad;have ai:D (j+1=0\/∃g b,H (⟨r,0,Ao⟩:Addr)=H ⟨g,0,Ao⟩/\(AB wr ⟨r,j,Ao⟩<|C Am c).heap[g]?=H (M b 5 (0,0))/\m<=b.size/\∀p,p<j+1->b[p]?=H (C Am c)):=by refine AG ⟨r,Ay b j<|C Am c,Z,by grind [heap_setCell_same],by simpa using aq,λp a0=>?_⟩;grind
 go_wp2;go_roundg A;exact⟨j+1,Bb,B9,ah,aj,t,ai⟩;omega
def XD(xs:AJ Aq):Prop:=∀(i i':AH) (v v':Aq) (g:AH),xs[i]?=An v->xs[i']?=An v'->Ax v=An g->Ax v'=An g->i/4=i' / 4
theorem f7(h:M8 V B la N lcap xs mc){q c:I}(L:n=4*q)(hF:Dw V V'<|MO xs n)(F:∀(i:I) (v:Aq),n<=i->i<n+4->xs[i]?=H v->Ic V' v (C Am c) 0)(hdis:∀(i:I) (v:Aq) (g:I),xs[i]?=H v->Ax v=H g->g≠B/\∀gr,la=Aa gr->g≠gr)(t:XD xs):M8 V' B la N lcap xs λi=>if i/4=n/4 then c else mc i:=by
 have w:¬MO xs n B:=λ⟨i,v,_,_,d,b⟩=>(hdis i v B d b).1 Z;refine⟨Ca (Qn hF (Fk h.w2) w) h.w2,h.len,λi v e=>?_,λi v e=>?_⟩
 .obtain⟨gr,f,j⟩:=h.ad i v e;exact⟨gr,f,Ca (Qn hF (Fk j) λ⟨i,v,_,_,d,b⟩=>(hdis i v gr d b).2 gr f Z) j⟩
 by_cases u:i/4=n/4
 .grind
 simp only[Cl u];have d:=h.all i v e;obtain⟨a,m,l,rfl,b⟩:=d;refine⟨a,m,l,Z,?_⟩;rcases b with b|⟨g,o,rfl,p,k,r,s⟩
 .exact AF b
 refine AG ⟨g,o,Z,p,?_,r,s⟩;refine Ca (hF.block g (Cd k) λ⟨x,A,P,Q,y,z⟩=>?_) k;have:=t i x _ A g e y Z z;omega
def f8(xs:AJ Aq)(g:AH):Prop:=∃(i:AH) (v:Aq),xs[i]?=An v/\Ax v=An g
theorem tJ:(λi=>if i/4=n/4 then Ek n else(if i/4=n/4 then 7 else Ek i))=Ek:=by grind [Ek]
theorem tK{Q:I}(h:M8 W B la N lcap xs Ek)(aa:N=4*Q)(hN:N<=1000000000)(ab:∀(i:I) (a:A4) (n ao:I),xs[i]?=H (AX a n ao)->n<=1000000000)(hdis:∀(i:I) (v:Aq) (g:I),xs[i]?=H v->Ax v=H g->g≠B/\∀gr,la=Aa gr->g≠gr)(ae:XD xs):Ar As 8 #[A8 B] W λe o=>e=Ak (Ah AP)/\Dw W o (f8 xs):=by
 have b:=T h;have t:=T ab;have k:=T hdis;have L:=T ae;have ay:=T aa;clear h ab hdis ae aa;go_enter func8,ntmps8;go_wp2
 go_loopg[3] Q (λg z wr=>∃n:I,z=C Y n/\D (∃q,n=4*q/\q+g=Q)/\D (M8 wr B la N lcap xs Ek)/\D (Dw W wr<|f8 xs))
 exact⟨0,Z,⟨0,Z,E⟩,b,Dw.refl _ _⟩;obtain⟨n,rfl,y,b,u⟩:=hrel;have A:=b.w2;obtain _|g:=gk
 .have a1:¬(n:J)<(N:J):=by grind [D]
  go_wp2;go_ret;exact⟨Z,u⟩
 have a4:(n:J)<(N:J):=by grind [D]
 have ag:n+4<=N:=by grind [D]
 have d:=eZ b ag hN t k 7
 go_wp2_with(first
  |(go_at_call 17;refine Ce d ?_;clear d A;rintro e F ⟨rfl,s⟩;have P:D _:=s;clear s))
 obtain⟨ar,x,S⟩:=AE P;clear P;have l:=T<|f7 b y.out.choose_spec.1 x S k L;have ak:=T<|u.next<|M1 x λg ⟨i,v,_,_,p,r⟩=>⟨i,v,p,r⟩;clear ar x S b u;have A:=l.w2
 go_loopg[4] N (λw z wr=>F=wr/\∃i:I,z=C Y i/\D (i+w=N))
 grind [D];obtain⟨rfl,i,rfl,ac⟩:=hrel;obtain _|w:=gk
 .have a2:¬(i:J)<(N:J):=AY<|AE ac;have R:∀V,Ar As 16 #[C Y n] V λe o=>e=Ak (C Am<|Ek n)/\V=o:=λV=>Ce (WS E) λe o h=>⟨h.1,h.2.symm⟩
  have d:=eZ l ag hN t k<|Ek n
  go_wp2_with(first
   |(go_at_call 16;refine Ce (R _) ?_;clear R;rintro e w5 ⟨rfl,rfl⟩)
   |(go_at_call 17;refine Ce d ?_;clear d A;rintro e w6 ⟨rfl,s⟩;have an:D _:=s))
  obtain⟨az,c,aq⟩:=AE an;have am:D<|M8 w6 B la N lcap xs Ek:=by have h:=f7 l y.out.choose_spec.1 c aq k L;rw[tJ]at h;exact h
  have al:=T<|ak.next<|M1 c λg ⟨i,v,_,_,p,r⟩=>⟨i,v,p,r⟩;go_roundg g;exact⟨n+4,Bb,(by obtain⟨q,p,r⟩:=AE y;exact⟨q+1,E,E⟩),am,al⟩;omega
 have a5:(i:J)<(N:J):=AY<|AE ac;obtain⟨gr,a,m,ap,rfl,r1,hx,a0⟩:=l.aq (i:=i) E;have a7:=t.out i a m ap hx;have aj:D (∀j,j<m->¬i/4=n/4->∃g,a=Aa g/\A6 F g j (C Am<|Ek i)):=λj hj a8=>B9;go_wp2
 go_loopg[5] m (λf z wr=>F=wr/\∃j:I,z=C Y j/\D (j+f=m))
 grind [D];obtain⟨rfl,j,rfl,ad⟩:=hrel;obtain _|f:=gk
 .have a3:¬(j:J)<(m:J):=AY<|AE ad;go_wp2;go_roundg w;exact⟨Z,i+1,Bb,B9⟩;omega
 have a6:(j:J)<(m:J):=AY<|AE ad;by_cases af:n<=i/\i<n+4
 .have t1:¬(i:J)<(n:J):=E;have ah:=af.1;have ai:AR (i<n)=AQ:=B7;have t2:¬(n:J)+4<=(i:J):=E;have aw:=af.2;have ax:AR (n+4<=i)=AQ:=B7;go_wp2;go_roundg f;exact⟨Z,j+1,Bb,B9⟩;omega
 have av:¬i/4=n/4:=by grind [D]
 obtain⟨gb,rfl,hb⟩:=aj.out j E av;have t7:(((Ek i:I):J)==7)=AQ:=by unfold Ek;simp;omega
 by_cases au:i<n
 .have t1:(i:J)<(n:J):=E;have ah:=au;have ai:AR (i<n)=AP:=B7;go_wp2;go_roundg f;exact⟨Z,j+1,Bb,B9⟩;omega
 have t1:¬(i:J)<(n:J):=E;have ah:n<=i:=E;have ai:AR (i<n)=AQ:=B7;have t2:(n:J)+4<=(i:J):=E;have aw:n+4<=i:=E;have ax:AR (n+4<=i)=AP:=B7;go_wp2;go_roundg f;exact⟨Z,j+1,Bb,B9⟩;omega
def MP(r:A5 AH):Aq:=match r with
 |.ok (x,_)=>if 9223372036854775807<x then Af #[Ab Al 9223372036854775807,Ah AP,.agg<|Cf (0,0)]else Af #[Ab Al x,Ah AQ,.agg<|Cf (0,0)]
 |.error f=>Af #[Ab Al 0,Ah AQ,.agg<|Cf f]
theorem Qo:∀(k p a x q:I),Cx bs lim p->CZ bs lim k p a=.ok (x,q)->q=p+k/\Cx bs lim q
 |0,p,a,x,q,hi,h=>kfu
 |k+1,p,a,x,q,hi,h=>by
  rw[CZ]at h;rcases hc:bs[p]? with _|c
  .rw[hc]at h;cases h
  rw[hc]at h;simp only[]at h;by_cases b:(p:J)=lim
  .grind
  rw[Cl b]at h;obtain⟨e,d⟩:=Qo k _ _ x q (Eu hi hc b) h;grind
theorem tL(h:(num+1)*256^(g+1)<=18446744073709551616)(c:36028797018963967<num):g=0:=by
 obtain _|g:=g
 .rfl
 have a:(num+1)*256^(g+2)<=18446744073709551616:=h;have b:36028797018963968*256^(g+2)<=(num+1)*256^(g+2):=PN _ E;grind
theorem tM{c:I}(h:(num+1)*256^(g+1)<=18446744073709551616)(a:c<256):(num*256+c+1)*256^g<=18446744073709551616:=by apply CE (PN _<|show num*256+c+1<=(num+1)*256 by omega);grind
def tN(a:k<=8):(0+1)*256^k<=18446744073709551616:=by have:256^k<=256^8:=OB B8 a;omega
theorem TU(W:X)(fm d:J)(k:I)(hk:k<=8)(hl:Lm bs l lim)(hi:Cx bs lim i)(hb:K bs<=281474976710656):Ar As 191 #[.agg<|Ct bs fm d l,C Y i,C Y k] W λab W'=>ab=Ak (MP<|CZ bs lim k i 0)/\A0 W W':=by
 obtain⟨R,s⟩:=CC<|CZ bs lim k i 0;rw[AE s];have ag:=hi.1;have HL:=T hl;have o:=T hi;have cH:=NL bs fm d l;have cB:=OX bs fm d l;unfold Ct;go_enter func191,ntmps191;go_wp2
 go_loopg[9,10,11] k (λg e zo zj wr=>∃j a:I,zj=C Y j/\D (j+g=i+k)/\((e=C Y a/\zo=Ah AQ/\D (a<=9223372036854775807))\/(∃z,g=0/\e=C Y z/\zo=Ah AP/\D (9223372036854775807<a)))/\D ((a+1)*256^g<=18446744073709551616)/\D (IP W (Ct bs fm d l) (O (U W)+1) wr)/\D (CZ bs lim g j a=R)/\D (Cx bs lim j))
 exact⟨i,0,Z,Z,AF ⟨Z,Z,Ex _⟩,tN hk,OW,s,o⟩;obtain⟨j,a,rfl,N,Q,L,b,s,o⟩:=hrel;have aj:=o.1;obtain⟨t,u,c2,v⟩:=Eb b.h;have q:=λV=>cH V j;have aa:=λV=>cB V j 9;have m:=AE s;obtain _|g:=gk
 .rw[CZ]at m;have ad:¬j<i+(k:J):=AY<|AE N;rcases Q with⟨rfl,rfl,P⟩|⟨z,_,rfl,rfl,P⟩
  .have n:D<|MP R=Af #[C Y a,Ah AQ,.agg<|Cf (0,0)]:=by grind [D,MP]
   go_wp2_with(first
    |((with_reducible refine Fb 8 40 rfl rfl (O (U W)+1) (0,0) ?_ ?_ ?_ ?_);exact Z;exact Z;exact b.a))
   have f:=Ht b CT (0,0);refine Ik results191 f (.int _ a) (Ah AQ) Z Z Z Z ⟨?_,f.2⟩;rw[AE n]
  have n:D<|MP R=Af #[C Y 9223372036854775807,Ah AP,.agg<|Cf (0,0)]:=by grind [D,MP]
  go_wp2_with(first
   |((with_reducible refine Fb 8 38 rfl rfl (O (U W)+1) (0,0) ?_ ?_ ?_ ?_);exact Z;exact Z;exact b.a))
  have f:=Ht b CT (0,0);refine Ik results191 f (.int _ _) (Ah AP) Z Z Z Z ⟨?_,f.2⟩;rw[AE n]
 rw[CZ]at m;have ad:j<i+(k:J):=AY<|AE N;obtain⟨rfl,rfl,P⟩:_/\_/\D _:=by
  rcases Q with h|⟨z,h,_⟩
  .exact h
  omega
 rcases RA (bs:=bs) (lim:=lim) j with al|⟨c,r,w⟩
 .obtain⟨hE,hh⟩:R=.error (D5 bs l j 9)/\CN bs l j=AQ:=by grind [D,IN,Id,Gl,Hs]
  rw[hh]at q;have n:=T hE;generalize D5 bs l j 9=F at *
  go_wp2_with(first
   |(go_at_call 116;apply Ec (q _) b.next λ_ h=>h.h;intro S p t u c2 v)
   |(go_at_call 84;apply Ec (aa _) p.next λ_ h=>h.h;intro w3 B t u c2 v)
   |((with_reducible refine Fb 8 26 rfl rfl (O (U W)+1) F ?_ ?_ ?_ ?_);exact Z;exact Z;exact B.a))
  have f:=Ht B CT F;refine Ik results191 f (.int _ 0) (Ah AQ) Z Z Z Z ⟨?_,f.2⟩;rw[AE n];rfl
 rw[r]at m;simp only[]at m;have ah:=λV=>Et r V;have ai:=Dk r;rw[Cl w]at m;rw[J5 HL o r w]at q;have y:=T m;have A:=T<|Eu o r w;have af:=c.toNat_lt;have x:=T<|tM L.out E;by_cases ae:36028797018963967<a
 .have ac:=tL L.out ae;subst ac;have d1:AR (36028797018963967<(a:J))=AP:=B7;have HO:D<|9223372036854775807<a*256+c.toNat:=by show _<_;omega
  go_wp2_with(first
   |(go_at_call 116;apply Ec (q _) b.next λ_ h=>h.h;intro S p t u c2 v))
  go_roundg 0;exact⟨_,_,Bb,E,AG ⟨_,Z,Z,Z,HO⟩,x,p,y,A⟩;omega
 have d1:AR (36028797018963967<(a:J))=AQ:=B7;have ak:(a:J)<=36028797018963967:=E
 go_wp2_with(first
  |(go_at_call 116;apply Ec (q _) b.next λ_ h=>h.h;intro S p t u c2 v))
 go_roundg g;exact⟨_,_,Bb,B9,AF ⟨Bb,Z,Bp⟩,x,p,y,A⟩;omega
def f9{a b:AK}(h:a=b):Ending.returned (Ah a)=Ak (Ah b):=by rw[h]
def tO:(List.range 256).all (λc=>AR<|((E7 c).1=8↔(c/32=3/\c%32<=27))/\(((E7 c).1=9\/(E7 c).1=10)↔((c/32=4\/c/32=5)/\c%32<=27)))=AP:=B6
def ff(c:AU):((E7 c.toNat).1=8↔(c.toNat/32=3/\c.toNat%32<=27))/\(((E7 c.toNat).1=9\/(E7 c.toNat).1=10)↔((c.toNat/32=4\/c.toNat/32=5)/\c.toNat%32<=27)):=Dr<|Hi.1 tO c.toNat<|Hj.2 c.toNat_lt
def tP:(List.range 256).all (λc=>AR<|((DD c).1=8↔((160<=c/\c<=191)\/(217<=c/\c<=219)))/\(((DD c).1=9\/(DD c).1=10)↔((128<=c/\c<=159)\/(220<=c/\c<=223))))=AP:=B6
def fh(c:AU):((DD c.toNat).1=8↔((160<=c.toNat/\c.toNat<=191)\/(217<=c.toNat/\c.toNat<=219)))/\(((DD c.toNat).1=9\/(DD c.toNat).1=10)↔((128<=c.toNat/\c.toNat<=159)\/(220<=c.toNat/\c.toNat<=223))):=Dr<|Hi.1 tP c.toNat<|Hj.2 c.toNat_lt
def DS(fm:AI)(c:AH):AH×AH×AH:=if fm=2 then E7 c else DD c
theorem XE(c:AU)(k:I):((c.toNat:J)/32%256==k)=AR (c.toNat/32=k)/\((c.toNat:J)/32==k)=AR (c.toNat/32=k)/\AR ((c.toNat:J)%32<=27)=AR (c.toNat%32<=27):=by have:=c.toNat_lt;grind
theorem tQ(W:X)(d l:J)(g:bs[i]?=H c)(h:fm=2\/fm=3):Ar As 168 #[.agg<|Ct bs fm d l,C Y i] W λe f=>e=Ak (Ah<|AR<|(DS fm c.toNat).1=8)/\A0 W f:=by
 have s:=Et g;have k:=(ff c).1;have j:=(fh c).1;obtain⟨n,m,o⟩:((c.toNat:J)/32%256==3)=_/\((c.toNat:J)/32==3)=_/\_:=XE c 3;have r:=c.toNat_lt;rcases h with rfl|rfl;cases a:AR (c.toNat/32=3)<;>cases b:AR (c.toNat%32<=27)<;>rw[a]at n m<;>rw[b]at o
 rotate_left 4
 rcases(by omega:(0<=(c.toNat:J)/\(c.toNat:J)<=159)\/(160<=(c.toNat:J)/\(c.toNat:J)<=191)\/(192<=(c.toNat:J)/\(c.toNat:J)<=216)\/(217<=(c.toNat:J)/\(c.toNat:J)<=219)\/220<=(c.toNat:J)/\(c.toNat:J)<=255)with⟨a,b⟩|⟨a,b⟩|⟨a,b⟩|⟨a,b⟩|⟨a,b⟩
 all_goals(obtain⟨q,p⟩:D _/\D _:=⟨k,j⟩;unfold Ct;go_enter func168,ntmps168;go_wp2;go_ret;exact⟨f9<|by grind [D,DS],Cm⟩)
theorem tR(W:X)(d l:J)(k:bs[i]?=H c)(m:fm=2\/fm=3):Ar As 131 #[.agg<|Ct bs fm d l,C Y i] W λe h=>e=Ak (Ah<|AR<|(DS fm c.toNat).1=9\/(DS fm c.toNat).1=10)/\A0 W h:=by
 have v:=Et k;have o:=(ff c).2;have n:=(fh c).2;obtain⟨r,p,t⟩:((c.toNat:J)/32%256==4)=_/\((c.toNat:J)/32==4)=_/\_:=XE c 4;obtain⟨s,q,_⟩:((c.toNat:J)/32%256==5)=_/\((c.toNat:J)/32==5)=_/\_:=XE c 5;have u:=c.toNat_lt;rcases m with rfl|rfl;cases a:AR (c.toNat/32=4)<;>cases b:AR (c.toNat%32<=27)<;>cases j:AR (c.toNat/32=5)<;>rw[a]at r p<;>rw[b]at t<;>rw[j]at s q
 rotate_left 8
 rcases(by omega:(0<=(c.toNat:J)/\(c.toNat:J)<=127)\/(128<=(c.toNat:J)/\(c.toNat:J)<=159)\/(160<=(c.toNat:J)/\(c.toNat:J)<=219)\/(220<=(c.toNat:J)/\(c.toNat:J)<=223)\/224<=(c.toNat:J)/\(c.toNat:J)<=255)with⟨a,b⟩|⟨a,b⟩|⟨a,b⟩|⟨a,b⟩|⟨a,b⟩
 all_goals(obtain⟨g,f⟩:D _/\D _:=⟨o,n⟩;unfold Ct;go_enter func131,ntmps131;go_wp2;go_ret;exact⟨f9 (by have:=AE g;have:=AE f;grind [DS]),Cm⟩)
theorem fj{P:Program}{fn:Func}{p q:Tmp}{ty ty2:AN}(h:fn.results=#[.cell p ty,.cell q ty2]){tmps:A3}{w:X}{g g2:I}{t t2:AN}{cs cs2:A3}{fr fr2:I×I}{d d2:TypeDesc}(l:tmps.getD p AO=A8 g)(i:w.heap[g]?=H (M cs t fr))(n:P.underlying ty=H d)(c:(match d with|.struct _|.array _ _=>AP|_=>AQ)=AP)(hi:(P.info? ty).map (·.size)=H cs.size)(m:tmps.getD q AO=A8 g2)(j:w.heap[g2]?=H (M cs2 t2 fr2))(o:P.underlying ty2=H d2)(f:(match d2 with|.struct _|.array _ _=>AP|_=>AQ)=AP)(k:(P.info? ty2).map (·.size)=H cs2.size):(results fn tmps).run P w=.ok (Af #[.agg cs,.agg cs2]) w:=by have e:(results fn tmps).run P w=((asAddr<|tmps.getD p AO).run P w).andThen λa s=>((loadVar ty a).run P s).andThen λv u=>((asAddr<|tmps.getD q AO).run P u).andThen λb x=>((loadVar ty2 b).run P x).andThen λr y=>.ok (Af #[v,r]) y:=Bm;rw[e,l,m];simp only[asAddr,Gf,G0,Jz w g t ty cs fr d i n c hi,Jz w g2 t2 ty2 cs2 fr2 d2 j o f k]
def Da(k n q:AI)(o:AK):A3:=#[Ab Al k,Ab Al n,Ab Al q,Ah o]
def tS:(prog.info? 237).map (·.size)=H 4:=B6
theorem TV{k n:J}{o:AK}:(prog.info? 237).map (·.size)=H (Da k n q o).size:=tS
def tT{k n:J}{o:AK}:(Da 0 0 0 AQ).size=(Da k n q o).size:=rfl
theorem fk{k n:J}{o:AK}:(Da k n q o).all (·.oneCell')=AP:=by simp[Da,Value.oneCell']
def tU{o:Oper}{a:Act}{w:X}{y:I}(d:o.guard=Ao)(e:o.op=.store 237 (.tmp x) (.tmp y)){k n:J}{b:AK}(hx:a.eval (.tmp x)=A8 g)(hy:a.eval (.tmp y)=.agg (Da k n q b))(c:A7 w g (Da 0 0 0 AQ) 237)(h:wpList As ops Q rest (a.put o.dst AO)<|AD w g<|Da k n q b):wpList As ops Q (o::rest) a w :=
 D8 d _ _ _ e g _ hx hy _ _ c (TV) (tT) (fk) h
def tV{p q:Tmp}{w:X}{k n:J}{b:AK}(h:fn.results=#[.cell p 237,.cell q 103])(a:A7 w g (Da k n z b) 237)(c:A7 w g2 (Cf F) 103)(d:tmps.getD p AO=A8 g)(e:tmps.getD q AO=A8 g2):(results fn tmps).run As w=.ok (Af #[.agg<|Da k n z b,.agg<|Cf F]) w :=
 fj h d a underlying237 rfl (TV) e c underlying103 rfl<|KG
theorem sH{md:Region.Mode}{S:X->Prop}{fuel:I}{listed:Array AK}{a:Act}{w:X}(i x y:I){k n:J}{b:AK}(e:(Region.ready md ops listed,ops[i]?.map λo=>(Region.wanted o<|yielded ops a.tmps,o.op,o.dst),a.eval<|.tmp x,a.eval<|.tmp y)=([i],H (AP,.store 237 (.tmp x)<|.tmp y,Ao),A8 g,.agg<|Da k n q b))(d:A7 w g (Da 0 0 0 AQ) 237)(c:S<|AD w g<|Da k n q b)(h:wpAnyH As md ops Q S fuel (Ay listed i AP) a<|AD w g<|Da k n q b):wpAnyH As md ops Q S (fuel+1) listed a w:=by grind [RL,TV,fk]
def JR{p q:Tmp}{A:Act}{w:X}{k n:J}{b:AK}{R:Ending->X->Prop}{B:Prop}(h:fn.results=#[.cell p 237,.cell q 103])(a:A7 w g (Da k n z b) 237/\A7 w g2 (Cf F) 103/\B)(d:A.tmps.getD p AO=A8 g)(e:A.tmps.getD q AO=A8 g2)(c:A.defers=[])(f:R (Ak<|Af #[.agg<|Da k n z b,.agg<|Cf F]) w):bodyPost As fn R .ret A w:=CS (tV h a.1 a.2.1 d e) c f
def tW{k n:J}{o:AK}(h:V.heap[g]?=H (M (Da k n q o) t fr)):A6 V g 0 (C Y k)/\A6 V g 1 (C Y n)/\A6 V g 2 (C Y q)/\A6 V g 3 (Ah o):=⟨Cc h 0,Cc h 1,Cc h 2,Cc h 3⟩
structure Jm(W:Ap)(A:A3)(V:Ap):Prop where
 h:V.heap[Au (Av W)]?=An (Aj A 115)
 c:V.heap[Au (Av W)+1]?=An (Aj (Da 0 0 0 AQ) 237)
 a:V.heap[Au (Av W)+2]?=An (Aj (Cf (0,0)) 103)
 ac:A0 W V
theorem Jm.next(h:Jm W A V)(hb:A0 V V'):Jm W A V' :=
 ⟨Ca (Co hb _<|Cd h.h) h.h,Ca (Co hb _<|Cd h.c) h.c,Ca (Co hb _<|Cd h.a) h.a,Cs h.ac<|CG hb h.ac.size⟩
theorem Jm.drew(h:Jm W A V):Jm W A V.drew:=⟨h.h,h.c,h.a,h.ac.drew⟩
def Jm.size(h:Jm W A V):O (U W)+3<=O (U V):=Cd h.a
def tX:Jm W A (Az (Az (Az W<|M A 115)<|M (Da 0 0 0 AQ) 237)<|M (Cf (0,0)) 103) :=
 ⟨Ca (Ca (CB _ _ _ B7)<|CB _ _ _ Ba)<|Cj _,Ca (CB _ _ _ Ba)<|B2<|Cj (Az W<|M A 115) (o:=(M (Da 0 0 0 AQ) 237)),B2<|Cj (Az (Az W<|M A 115)<|M (Da 0 0 0 AQ) 237) (o:=(M (Cf (0,0)) 103)),((Cm).alloc Ba _).alloc B7 _⟩
def zH{o:Oper}{a:Act}{w:X}(x:I){y:I}(d:o.guard=Ao)(e:o.op=.store 237 (.tmp x) (.tmp y))(g:I)(k n q:J)(b:AK)(c:a.eval (.tmp x)=A8 g/\a.eval (.tmp y)=.agg (Da k n q b)/\A7 w g (Da 0 0 0 AQ) 237)(h:wpList As ops Q rest (a.put o.dst AO)<|AD w g<|Da k n q b):wpList As ops Q (o::rest) a w:=tU d e c.1 c.2.1 c.2.2 h
def Jm.ck{f:FuncId}{args:A3}{r:Ending}{Q:Ending->X->Prop}(h:Jm W (Ct bs fm d l) V)(c:Ar P f args V λe a=>e=r/\A0 V a)(k:∀w,D (Jm W (Ct bs fm d l) w)->AC w ⟨O<|U W,0,Ao⟩=(#[Ae ⟨Aw bs⟩,C Y fm,C Y d,C Y l]:A3)[0]?->AC w ⟨O<|U W,1,Ao⟩=(#[Ae ⟨Aw bs⟩,C Y fm,C Y d,C Y l]:A3)[1]?->AC w ⟨O<|U W,2,Ao⟩=(#[Ae ⟨Aw bs⟩,C Y fm,C Y d,C Y l]:A3)[2]?->AC w ⟨O<|U W,3,Ao⟩=(#[Ae ⟨Aw bs⟩,C Y fm,C Y d,C Y l]:A3)[3]?->Q r w):Ar P f args V Q:=Ec c h.next (λ_ h=>h.h) k
def KQ(W:X)(bs:A1)(fm d l:J):D<|Jm W (Ct bs fm d l)<|Az (Az (Az W<|M #[Ae ⟨Aw bs⟩,C Y fm,C Y d,C Y l] 115)<|M #[C Y 0,C Y 0,C Y 0,Ah AQ] 237)<|M #[C Y 0,C Y 0] 103:=tX
def Jm.ai(h:Jm W A V)(y:A3)(x:J×J):(AD (AD V (O (U W)+1) y) (O (U W)+2)<|Cf x).heap[O (U W)+1]?=H (M y 237)/\(AD (AD V (O (U W)+1) y) (O (U W)+2)<|Cf x).heap[O (U W)+2]?=H (M (Cf x) 103)/\A0 W (AD (AD V (O (U W)+1) y) (O (U W)+2)<|Cf x):=by
 refine⟨?_,?_,Dq (Dq h.ac E) E⟩
 .rw[Do _ _ _ _ E];exact CR _ _ _ _ _ _ h.c
 exact CR _ _ _ _ _ _<|sx E h.a
def TW(R:A5 AH)(nv:AI)(ov:AK)(F:AI×AI):Prop :=
 0<=nv/\nv<=9223372036854775807/\(∀x q,R=.ok (x,q)->F=(0,0)/\nv=min (x:AI) 9223372036854775807/\ov=AR (9223372036854775807<x))/\(∀f,R=.error f->F=f)
theorem ft(R:A5 I):∃b c F,MP R=Af #[C Y b,Ah c,.agg<|Cf F]/\TW R b c F:=by
 obtain f|y:=R
 .exact⟨0,AQ,f,Z,E,E,(λx q e=>keC),(λa e=>by injection e)⟩
 obtain⟨x,q⟩:=y;unfold MP;simp only[];by_cases h:9223372036854775807<x
 .rw[Cp h];refine⟨_,_,_,Z,E,E,(λg d e=>?_),(λa e=>keC)⟩;grind
 rw[Cl h];refine⟨_,_,_,Z,E,E,(λg d e=>?_),(λa e=>keC)⟩;grind
def J7(so:AH):AI:=if so=2 then 1 else if so=3 then 2 else if so=4\/so=5\/so=6 then 3 else if so=7 then 5 else if so=8 then 4 else if so=9 then 6 else if so=10 then 7 else 0
def nR(so w x:AH):AI:=if so=5 then GG x w else if so=6 then -1-min (x:AI) 9223372036854775807 else min (x:AI) 9223372036854775807
def In(so x:AH):AK:=if so=5 then AQ else AR (9223372036854775807<x)
def Eo(fm:AI)(bs:A1)(lim:AI)(i:AH):AS (AI×AI)<|AH×AH×AH×AH:=match bs[i]? with
 |none=>.error (9,(i:AI))
 |some c=>if(i:AI)=lim then .error (8,(i:AI))else if(DS fm c.toNat).1=0 then .error (9,(i:AI))else match CZ bs lim (DS fm c.toNat).2.1 (i+1) (DS fm c.toNat).2.2 with
  |.error f=>.error f
  |.ok (x,q)=>.ok ((DS fm c.toNat).1,(DS fm c.toNat).2.1,x,q)
def Ew(r:AS (AI×AI)<|AH×AH×AH×AH)(e:Ending):Prop :=
 ∃a n q o F,e=Ak (Af #[.agg<|Da a n q o,.agg<|Cf F])/\(∀so w x p,r=.ok (so,w,x,p)->a=J7 so/\n=nR so w x/\q=(p:AI)/\o=In so x/\F=(0,0))/\(∀f,r=.error f->F=f)
theorem NY{r:AS (J×J)<|I×I×I×I}(h:r=.error f){a n:J}{o:AK}:Ew r (Ak<|Af #[.agg<|Da a n q o,.agg<|Cf f]) :=
 ⟨a,n,q,o,f,rfl,(λc w x p e=>by rw[h]at e;cases e),(λb e=>B9)⟩
theorem MQ{r:AS (J×J)<|I×I×I×I}{w:I}{a n:J}{o:AK}(h:r=.ok (so,w,x,p))(c:a=J7 so)(d:n=nR so w x)(g:q=(p:J))(f:o=In so x):Ew r (Ak<|Af #[.agg<|Da a n q o,.agg<|Cf (0,0)]) :=
 ⟨a,n,q,o,(0,0),rfl,(λj k l i e=>B9),(λb e=>by rw[h]at e;cases e)⟩
theorem fw(t:bs[i]?=H c)(v:¬(i:J)=lim)(hi:Cx bs lim<|i+1)(u:DS fm c.toNat=(so,k,0))(s:¬so=0){nv n:J}{ov o:AK}{a:J}(b:TW (CZ bs lim k (i+1) 0) nv ov F)(j:a=J7 so)(r:q=(i:J)+1+k)(l:∀x:I,nv=min (x:J) 9223372036854775807->n=nR so k x)(m:∀x:I,ov=AR (9223372036854775807<x)->o=In so x):Ew (Eo fm bs lim i)<|Ak<|Af #[.agg<|Da a n q o,.agg<|Cf F]:=by
 have e:Eo fm bs lim i=match CZ bs lim k (i+1) 0 with
  |.error f=>.error f
  |.ok (x,q)=>.ok (so,k,x,q):=by
  grind [Eo]
 rcases hr:CZ bs lim k (i+1) 0 with f|y
 .rw[hr]at e;have:=b.2.2.2 f hr;grind [NY]
 obtain⟨x,p⟩:=y;rw[hr]at e;obtain⟨d,g,h⟩:=b.2.2.1 x p hr;subst d;refine MQ e j (l x g) ?_<|m x h;have:=(Qo k _ 0 x p hi hr).1;rw[r,this];omega
def Qp(b:bs[i]?=H c)(e:¬(i:J)=lim)(d:DS fm c.toNat=(so,0,x))(a:¬so=0):Eo fm bs lim i=.ok (so,0,x,i+1):=by unfold Eo;rw[b];simp only[];rw[Cl e,d,Cl a];rfl
theorem XF(a:bs[i]?=H c)(d:¬(i:J)=lim)(b:(DS fm c.toNat).1=0):Eo fm bs lim i=.error (9,(i:J)):=by grind [Eo]
def tY(R:A5 AH)(kd:AI)(fn:AI->AI)(q:AI)(e:Ending):Prop:=∃nv ov F,e=Ak (Af #[.agg<|Da kd (fn nv) q ov,.agg<|Cf F])/\TW R nv ov F
def Lv(n:AH):AI:=if n=0 then 3 else if n=1 then 3 else if n=2 then 5 else if n=3 then 4 else if n=4 then 6 else 7
def fy(w:X)(a:n<6):(Az w<|M #[C Y 3,C Y 3,C Y 5,C Y 4,C Y 6,C Y 7] 3).cell? ⟨O<|U w,n,Ao⟩=H (C Y<|Lv n):=by
 rw[Cc (Cj _) n]
 match n,a with
 |0,_=>rfl
 |1,_=>rfl
 |2,_=>rfl
 |3,_=>rfl
 |4,_=>rfl
 |5,_=>rfl
def tZ(L:k<=8)(hl:Lm bs l lim)(hi:Cx bs lim<|i+1)(hb:K bs<=200000000):Ar As 192 #[.agg<|Ct bs fm d l,C Y i,C Y kd,C Y k] W λe A=>tY (CZ bs lim k (i+1) 0) kd (λc=>c) ((i:J)+1+k) e/\A0 W A:=by
 have p:=λV=>TU V (bs:=bs) fm d (l:=l) (i:=(i+1)) k L hl hi E;unfold Ct at p;obtain⟨c,f,F,B,r⟩:=ft<|CZ bs lim k (i+1) 0;rw[B]at p;have v:=p;unfold Ct at v;have Q:=r.1;have R:=r.2.1;have x:=T r;have z:=KQ W bs fm d l;have P:=hi.1;unfold Ct;go_enter func192,ntmps192
 go_wp2_with(first
  |(go_at_call 191;refine ck (v _) z.next ?_;intro s u)
  |((with_reducible refine zF 12 21 rfl rfl (O<|U s) F ?_ ?_);exact⟨Z,Z,Cj s⟩;refine FA ?_;intro N t;have o:=T<|t▸u.next (KP);have y:=T<|t▸CR _ _ _ _ _ _ (Cj _);have m:=T u.size;generalize O (U s)=M at *))
 refine Dl (S:=λh=>A7 h M (Cf F) 103) (y) B6 λa=>Ch 8 30 (.agg<|Cf F) Z (λh j=>yF 12 j Z Z) a <| Cb 0 22 (C Y kd) a <| Cb 1 23 (C Y c) a <| Cb 2 24 (C Y i) a <| Ch 3 25 (C Y<|(i:J)+1) Z (λh j=>Bo) a <| Cb 4 26 (C Y k) a <| Ch 5 27 (C Y<|(i:J)+1+k) Z (λh j=>Bo) a <| Cb 6 28 (Ah f) a <| Ch 7 29 (.agg<|Da kd c ((i:J)+1+k) f) Z (λh j=>by unfold Da;go_simp) a <| sH 9 8 29 (g:=(O (U W)+1)) (k:=kd) (n:=c) (q:=((i:J)+1+k)) (b:=f) B6 (o.drew.c) ((Do _ (O (U W)+1) M (Da kd c ((i:J)+1+k) f)<|AY<|AE m).trans a) ?_;refine sF 10 9 30 (g:=(O (U W)+2)) (F:=F) B6 (sx E o.drew.a) (sx (AY<|AE m)<|(Do _ (O (U W)+1) M (Da kd c ((i:J)+1+k) f)<|AY<|AE m).trans a) <| CK ?_;go_simp;go_wp2;have w:=o.drew.ai (Da kd c ((i:J)+1+k) f)<|F;refine JR results192 w Z Z Z ⟨?_,w.2.2⟩;exact⟨c,f,F,Z,x⟩
def fz{x:J×J}(y:D5 bs l i 9=x)(z:Ew R<|Ak<|Af #[.agg<|Da 0 0 0 AQ,.agg<|Cf x])(k:CN bs l i=AQ\/(CN bs l i=AP/\∃c,bs[i]?=H c/\((c.toNat/32=7/\(c.toNat%32<20\/22<c.toNat%32))\/c.toNat/32=6\/(c.toNat/32<6/\27<c.toNat%32)))):Ar As 166 #[.agg<|Ct bs fm d l,C Y i] W λe t=>Ew R e/\A0 W t:=by
 have r:=NK fm d y;have q:=KQ W bs fm d l;have p:=T z;unfold Ct;rcases k with j|⟨j,c,s,k⟩
 rotate_left
 .have ac:=Et s;have ab:=Dk s;have aa:=c.toNat_lt;obtain⟨n,F⟩:=DF<|c.toNat/32;obtain⟨m,B⟩:=DF<|c.toNat%32;rw[F,B]at k;have hq:(c.toNat:J)/32=(n:J):=E;have hr:(c.toNat:J)%32=(m:J):=E;have A:(((n:J)==7)=AP/\AR ((m:J)<20)=AP)\/(((n:J)==7)=AP/\AR ((m:J)<20)=AQ/\AR (22<(m:J))=AP)\/(((n:J)==7)=AQ/\((n:J)==6)=AP)\/(((n:J)==7)=AQ/\((n:J)==6)=AQ/\AR (27<(m:J))=AP):=B7;have h:=GJ fm d j;rcases A with⟨o,S⟩|⟨o,S,Q⟩|⟨o,P⟩|⟨o,P,Q⟩
  all_goals
   go_enter func166,ntmps166
   go_wp2_with(first
    |(go_at_call 116;refine q.ck (h _) ?_;intro f b u v c2 w;have L:O (U W)<O (U f):=keZ;have N:O (U W)<O (U f)+1:=E)
    |(go_at_call 84;refine(r _).mono ?_;rintro e V ⟨rfl,g⟩;have a:=T<|(by first|exact b.next g|exact(b.next<|Cm).next g))
    |((with_reducible refine zH 4 rfl rfl (O (U W)+1) 0 0 0 AQ ?_ ?_);exact⟨Z,Z,a.c⟩)
    |((with_reducible refine zF 5 _ rfl rfl (O (U W)+2) x ?_ ?_);exact⟨Z,Z,sx E a.a⟩))
   refine JR results166 (a.ai _ _) Z Z Z ⟨p,(a.ai _ _).2.2⟩
 have h:=GJ fm d j;go_enter func166,ntmps166
 go_wp2_with(first
  |(go_at_call 116;refine q.ck (h _) ?_;intro f b u v c2 w;have L:O (U W)<O (U f):=keZ;have N:O (U W)<O (U f)+1:=E)
  |(go_at_call 84;refine(r _).mono ?_;rintro e V ⟨rfl,g⟩;have a:=T<|b.next g)
  |((with_reducible refine zH 4 rfl rfl (O (U W)+1) 0 0 0 AQ ?_ ?_);exact⟨Z,Z,a.c⟩)
  |((with_reducible refine zF 5 _ rfl rfl (O (U W)+2) x ?_ ?_);exact⟨Z,Z,sx E a.a⟩))
 refine JR results166 (a.ai _ _) Z Z Z ⟨p,(a.ai _ _).2.2⟩
def RU(h:bs[i]?=H c)(b:CN bs l i=AP)(hb:At bs<=200000000){K N:J}(r:Ew R<|Ak<|Af #[.agg<|Da K N ((i:J)+1) AQ,.agg<|Cf (0,0)])(f:∃n m:I,c.toNat/32=n/\c.toNat%32=m/\((n=7/\m=20/\K=1/\N=0)\/(n=7/\m=21/\K=2/\N=0)\/(n=7/\m=22/\K=0/\N=0)\/(n<6/\m<24/\n=1/\K=Lv n/\N = -1-(m:J))\/(n<6/\m<24/\¬n=1/\K=Lv n/\N=m))):Ar As 166 #[.agg<|Ct bs fm d l,C Y i] W λe q=>Ew R e/\A0 W q:=by
 have A:=Et h;have z:=Dk h;have y:=c.toNat_lt;have g:=GJ fm d b;have p:=KQ W bs fm d l;have o:=T r;obtain⟨n,m,Q,B,f⟩:=f;have L:(c.toNat:J)/32=(n:J):=E;have P:(c.toNat:J)%32=(m:J):=E;unfold Ct;rcases f with⟨rfl,rfl,rfl,rfl⟩|⟨rfl,rfl,rfl,rfl⟩|⟨rfl,rfl,rfl,rfl⟩|⟨j,s,b,rfl,rfl⟩|⟨j,s,b,rfl,rfl⟩
 rotate_right 2
 all_goals
  try
   have S:=λw=>fy w j;have t7:((n:J)==7)=AQ:=B7;have t6:((n:J)==6)=AQ:=B7;have tg:AR (27<(m:J))=AQ:=B7;have tl:AR ((m:J)<24)=AP:=B7;have F:(n:J)<6:=E
   first
    |have t:((n:J)==1)=AP:=B7
    |have t:((n:J)==1)=AQ:=B7
   clear b
  go_enter func166,ntmps166
  go_wp2_with(first
   |(go_at_call 116;refine p.ck (g _) ?_;clear g;intro k a u v c2 x;have V:O (U W)<O (U k):=keT;have n2:O (U W)<O (U k)+1:=E)
   |((with_reducible refine zH 4 rfl rfl (O (U W)+1) 1 0 ((i:J)+1) AQ ?_ ?_);exact⟨rfl,rfl,(a.next<|Cm).c⟩)
   |((with_reducible refine zH 4 rfl rfl (O (U W)+1) 2 0 ((i:J)+1) AQ ?_ ?_);exact⟨rfl,rfl,(a.next<|Cm).c⟩)
   |((with_reducible refine zH 4 rfl rfl (O (U W)+1) 0 0 ((i:J)+1) AQ ?_ ?_);exact⟨rfl,rfl,(a.next<|Cm).c⟩)
   |((with_reducible refine zH 4 rfl rfl (O (U W)+1) (Lv n) (-1-(m:J)) ((i:J)+1) AQ ?_ ?_);exact⟨rfl,rfl,(a.next<|Cm).c⟩)
   |((with_reducible refine zH 4 rfl rfl (O (U W)+1) (Lv n) m ((i:J)+1) AQ ?_ ?_);exact⟨rfl,rfl,(a.next<|Cm).c⟩)
   |((with_reducible refine zF 5 _ rfl rfl (O (U W)+2) (0,0) ?_ ?_);exact⟨rfl,rfl,sx E (a.next<|Cm).a⟩))
  refine JR results166 ((a.next<|Cm).ai _ _) rfl rfl rfl ⟨o,((a.next<|Cm).ai _ _).2.2⟩
def u6(W:X)(L:bs[i]?=H c)(h1:CN bs l i=AP)(k:I)(g:J->J)(hs:c.toNat/32=n)(hn:n<6)(hm:c.toNat%32=m)(hl:Lm bs l lim)(hi:Cx bs lim<|i+1)(hb:K bs<=200000000)(hg:(n=1/\g=λx=>-1-x)\/(¬n=1/\g=λx=>x))(hk:(m=24/\k=1)\/(m=25/\k=2)\/(m=26/\k=4)\/(m=27/\k=8))(a:∀b f F,TW (CZ bs lim k (i+1) 0) b f F->Ew R (Ak<|Af #[.agg<|Da (Lv n) (g b) ((i:J)+1+k) f,.agg<|Cf F])):Ar As 166 #[.agg<|Ct bs fm d l,C Y i] W λe W'=>Ew R e/\A0 W W':=by
 have ag:=Et L;have ae:=Dk L;have ad:=c.toNat_lt;have hq:(c.toNat:J)/32=(n:J):=E;have hr:(c.toNat:J)%32=(m:J):=E;have t7:((n:J)==7)=AQ:=B7;have t6:((n:J)==6)=AQ:=B7;have kt:=λw=>fy w hn;have ai:(n:J)<6:=E;have h:=GJ fm d h1;have A:=λV=>TU V fm d k E hl hi E;unfold Ct at *;obtain⟨b,f,F,ac,r⟩:=ft<|CZ bs lim k (i+1) 0;rw[ac]at A;have aj:=r.1;have ak:=r.2.1;have af:=hi.1;have v:=T<|a b f F r;obtain⟨N,o⟩:=DF<|g b;rw[o]at v;have hw:(((n:J)==1)=AP/\N = -1-b)\/(((n:J)==1)=AQ/\N=b):=by
  rcases hg with⟨aa,rfl⟩|⟨aa,rfl⟩
  .exact AF ⟨B7,o.symm⟩
  exact AG ⟨B7,o.symm⟩
 have HX:=KQ W bs fm d l;rcases hk with⟨rfl,rfl⟩|⟨rfl,rfl⟩|⟨rfl,rfl⟩|⟨rfl,rfl⟩
 let kk:J:=1;rotate_left
 let kk:J:=2;rotate_left
 let kk:J:=4;rotate_left
 let kk:J:=8;rotate_left
 all_goals
  have ah:0<=kk/\kk<=8:=Dr Z;rcases hw with⟨t1,rfl⟩|⟨t1,o⟩
 all_goals
  go_enter func166,ntmps166
  go_wp2_with(first
   |(go_at_call 116;refine HX.ck (h _) ?_;intro P y c0 c1 c2 c3;have n1:O (U W)<O (U P):=(AY y.size);have n2:O (U W)<O (U P)+1:=E)
   |(go_at_call 191;refine(A _).mono ?_;rintro e s ⟨rfl,ab⟩;have z:=T<|((y.next<|Cm).next (Cm)).next ab)
   |((with_reducible refine zF 13 95 rfl rfl (O<|U s) F ?_ ?_);exact⟨Z,Z,Cj s⟩;refine FA ?_;intro V4 t;have p:=T<|t▸z.next (KP);have Q:=T<|t▸CR _ _ _ _ _ _ (Cj _);have u:=T z.size;generalize O (U s)=M at *))
  first
   |subst o
   |generalize -1-b=N at *
  refine Dl (S:=λj=>A7 j M (Cf F) 103) (Q) B6 λa=>Ch 8 108 (.agg<|Cf F) Z (λj q=>yF 13 q Z Z) a <| Cb 0 100 (C Y<|Lv n) a <| Cb 1 101 (C Y N) a <| Cb 2 102 (C Y i) a <| Ch 3 103 (C Y<|(i:J)+1) Z (λj q=>Bo) a <| Cb 4 104 (C Y kk) a <| Ch 5 105 (C Y<|(i:J)+1+kk) Z (λj q=>Bo) a <| Cb 6 106 (Ah f) a <| Ch 7 107 (.agg<|Da (Lv n) N ((i:J)+1+kk) f) Z (λj q=>by unfold Da;go_simp) a ?_;have B:=(Do _ (O (U W)+1) M (Da (Lv n) N ((i:J)+1+kk) f)<|AY<|AE u).trans a;refine sH 9 4 107 B6 (p.drew.c) B ?_;refine sF 10 5 108 (g:=(O (U W)+2)) (F:=F) B6 (sx E p.drew.a) (sx (AY<|AE u) B) <| CK ?_;go_simp;go_wp2;refine JR results166 (p.drew.ai _ _) Z Z Z ⟨v,(p.drew.ai _ _).2.2⟩
def Kj(c:AU):AI:=if 128<=c.toNat then(c.toNat:AI)-256 else(c.toNat:AI)
def TX(R:A5 AH)(c:AU)(i k:AH)(e:Ending):Prop :=
 ∃a n q o F,e=Ak (Af #[.agg<|Da a n q o,.agg<|Cf F])/\(∀y p,R=.ok (y,p)->a=3/\n=Kj c*256^(k-1)+y/\q=(i:AI)+1+k/\o=AQ/\F=(0,0))/\(∀f,R=.error f->F=f)
def fA(hl:Lm bs l lim):∀(k p a:I) (f:J×J),Cx bs lim p->CZ bs lim k p a=.error f->∃d:I,f.2=(d:J)/\D5 bs l d f.1=f/\¬f.1=0
 |0,p,a,f,_,h=>by rw[CZ]at h;cases h
 |k+1,p,a,f,hi,h=>by
  rw[CZ]at h;rcases hc:bs[p]? with _|c
  .rw[hc]at h;injection h with h;subst h;exact⟨p,Z,IN hi.1 hc 9,Ba⟩
  rw[hc]at h;simp only[]at h;by_cases b:(p:J)=lim
  .rw[Cp b]at h;injection h with h;subst h;exact⟨p,Z,Gl hl hc b 8,Ba⟩
  rw[Cl b]at h;exact fA hl k _ _ f (Eu hi hc b) h
def u7(c:AU):-128<=Kj c/\Kj c<=127:=by have:=c.toNat_lt;unfold Kj;split<;>omega
def fC(c:AU)(j:I)(e:j<=7):-9223372036854775808<=Kj c*256^j/\Kj c*256^j+256^j<=9223372036854775808:=by obtain⟨b,d⟩:=u7 c;have a:j=0\/j=1\/j=2\/j=3\/j=4\/j=5\/j=6\/j=7:=E;rcases a with rfl|rfl|rfl|rfl|rfl|rfl|rfl|rfl<;>simp<;>omega
def u9(W:X)(fm d:J)(p:1<=k)(S:k<=8)(c:AU)(hl:Lm bs l lim)(hb:K bs<=200000000)(R:i+1<K bs)(hi:Cx bs lim<|i+2)(a:CZ bs lim (k-1) (i+2) 0=.error f):Ar As 193 #[.agg<|Ct bs fm d l,C Y i,C Y k] W λe j=>TX (CZ bs lim (k-1) (i+2) 0) c i k e/\A0 W j:=by
 have L:∀V,Ar _ _ #[Ag #[.string _,.int _ fm,.int _ d,.int _ l],.int _<|i+2,.int _ _] V _:=λV=>by have h:=TU V fm d (k-1) E hl hi E;rw[a,show(k-1:I)=(k:J)-1 by omega]at h;unfold MP at h;simp only[]at h;exact h
 obtain⟨N,B,x,A⟩:=fA hl _ _ 0 f hi a;have aa:(f.1==0)=AQ:=keH;have w:∀V,Ar _ 84 #[.agg _,.int _ _,.int _ _] V λe j=>e=Ak (.agg<|Cf f)/\Below _ V j:=λV=>by have h:=M3 V bs fm d l N f.1;rw[x,<-B]at h;exact h
 have F:=KQ W bs fm d l;have o:=T a;clear hl hi a B x A;unfold Ct;go_enter func193,ntmps193
 go_wp2_with(first
  |(go_at_call 191;apply ck (L _) F.next;intro m q)
  |(go_at_call 84;apply r.ck<|w _;clear w t u c2 v;intro w5 g t u c2 v)
  |((with_reducible refine zF 10 22 rfl rfl (O<|U m) (f) ?_ ?_);exact⟨Z,Z,Cj m⟩;apply FA;intro s b;have r:=T<|b▸q.next (KP);have n:=T<|b▸CR _ _ _ _ _ _ (Cj _);have P:=T q.size;clear b;generalize O (U m)=M at *;have u0:AC s _=H (.int _ _):=Cc n 0;have u1:AC s _=H (.int _ _):=Cc n 1;obtain⟨t,u,c2,v⟩:=Eb r.h)
  |((with_reducible refine zH 6 (y:=26) rfl rfl (O (U W)+1) 0 0 0 AQ ?_ ?_);exact⟨Z,Z,g.c⟩)
  |((with_reducible refine zF 7 32 rfl rfl (O (U W)+2) (f) ?_ ?_);exact⟨Z,Z,sx E g.a⟩))
 have z:=g.ai (Da 0 0 0 AQ)<|f;refine JR results193 z Z Z Z ⟨?_,z.2.2⟩;exact⟨0,0,0,AQ,f,Z,(λy ab e=>by rw[AE o]at e;cases e),(λQ e=>by rw[AE o]at e;injection e)⟩
def ub(W:X)(fm d:J)(ak:1<=k)(hk:k<=8)(hl:Lm bs l lim)(hb:K bs<=200000000)(ah:i+1<K bs)(hi:Cx bs lim<|i+2)(F:bs[i+1]?=H c){y:I}(n:CZ bs lim (k-1) (i+2) 0=.ok (y,p)):Ar As 193 #[.agg<|Ct bs fm d l,C Y i,C Y k] W λe S=>TX (CZ bs lim (k-1) (i+2) 0) c i k e/\A0 W S:=by
 have ai:∀V,(Instr.index 9 _<|.int _<|i+1).run _ V=.ok _ V:=λV=>Et F V;have ag:=c.toNat_lt;have ht:(AR (128<=(c.toNat:J))=AP/\D (Kj c=c.toNat-256))\/(AR (128<=(c.toNat:J))=AQ/\D (Kj c=c.toNat)):=by
  by_cases h:128<=c.toNat
  .exact AF ⟨B7,Cp h⟩
  exact AG ⟨B7,Cl h⟩
 have cG:∀V,Ar _ _ #[Ag #[.string _,.int _ fm,.int _ d,.int _ l],.int _<|i+2,.int _ _] V _:=λV=>by have h:=TU V fm d (k-1) E hl hi E;rw[n,show(k-1:I)=(k:J)-1 by omega]at h;unfold MP at h;simp only[]at h;rw[Cl (by have:=RE _ _ _ _ _ n;have:(0+1)*256^(k-1)<=(0+1)*256^7:=Nat.mul_le_mul_left _<|OB B8 E;omega)]at h;exact h
 have P:=KQ W bs fm d l;have z:=T n;have Q:D<|(y:J)<256^(k-1):=by
  show _<_;have:=RE _ _ _ _ _ n;rw[Gg,Nat.one_mul]at this
  exact_mod_cast this
 clear hl hi n F;unfold Ct;rcases ht with⟨ae,o⟩|⟨ae,o⟩
 all_goals
  go_enter func193,ntmps193
  go_wp2_with(first
   |(go_at_call 191;apply ck (cG _) P.next;intro v A)
   |((with_reducible refine zF 10 22 rfl rfl (O<|U v) (0,0) ?_ ?_);exact⟨Z,Z,Cj v⟩;apply FA;intro s w;have q:=T<|w▸A.next (KP);have x:=T<|w▸CR _ _ _ _ _ _ (Cj _);have af:=T A.size;generalize O (U v)=M at *;have u0:AC s _=H (.int _<|0):=Cc x 0;have u1:AC s _=H (.int _<|0):=Cc x 1;obtain⟨c0,c1,c2,c3⟩:=Eb q.h))
  go_loopg[11,12] (k-1) (λg zt zj wr=>wr=s/\∃(j:I) (a:J),zt=C Y a/\zj=C Y ((j:J)+1)/\D (j+g=k-1)/\D (a=Kj c*256^j))
  exact⟨Z,0,_,Z,Z,Bg,by show _=_;rw[AE o];simp⟩;clear c0 c1 c2 c3 u0 u1;obtain⟨rfl,j,a,rfl,rfl,b,m⟩:=hrel;obtain _|g:=gk
  .have t:j=k-1:=AY<|AE b;have aa:¬j+1<(k:J):=E;have f:=fC c (k-1) E;have u : -9223372036854775808<=a+y/\a+y<=9223372036854775807:=by have B:=AE m;have h2:=AE Q;rw[t]at B;rw[B];omega
   have ac:=u.1;have ad:=u.2;have R:D<|a=Kj c*256^(k-1):=by show _=_;rw[AE m,t]
   clear m f b t u o
   go_wp2_with(first
    |((with_reducible refine zH 6 (y:=57) rfl rfl (O (U W)+1) 3 (a+y) ((i:J)+1+k) AQ ?_ ?_);exact⟨Z,Z,q.c⟩)
    |((with_reducible refine zF 7 58 rfl rfl (O (U W)+2) (0,0) ?_ ?_);exact⟨Z,Z,sx E q.a⟩))
   have L:=q.ai (Da 3 (a+y) (i+1+k) AQ) (0,0);refine JR results193 L Z Z Z ⟨?_,L.2.2⟩;exact⟨_,_,_,_,_,Z,(λy' p' e=>by rw[AE z]at e;injection e with e;injection e with e1 e2;subst e1;exact⟨Z,by rw[AE R],Z,Z,Z⟩),(λf' e=>by rw[AE z]at e;cases e)⟩
  have aa:j+1<(k:J):=AY<|AE b;have f:=fC c (j+1)<|AY<|AE b;have ab:(0:J)<=256^(j+1):=Int.pow_nonneg B8;have r:a*256=Kj c*256^(j+1):=by rw[AE m,Int.pow_succ,Int.mul_assoc]
  have ac : -9223372036854775808<=a*256:=by rw[r];exact f.1
  have ad:a*256<=9223372036854775807:=by have al:(1:J)<=256^(j+1):=Int.pow_pos B8;rw[r];have:=f.2;omega
  have N:=T r;have aj:(j:J)<=7:=AY<|AE b;clear r f ab m o;go_wp2;go_roundg g;exact⟨Z,_,_,Z,Bb,AZ<|AE b,N⟩;omega
def ud(j:1<=k)(g:k<=8)(hl:Lm bs l lim)(hb:K bs<=200000000)(hi:Cx bs lim<|i+2)(b:bs[i+1]?=H c):Ar As 193 #[.agg<|Ct bs fm d l,C Y i,C Y k] W λe m=>TX (CZ bs lim (k-1) (i+2) 0) c i k e/\A0 W m:=by
 have a:=Dk b;rcases hR:CZ bs lim (k-1) (i+2) 0 with f|x
 .have h:=u9 W fm d j g c hl hb a hi hR;rw[hR]at h;exact h
 obtain⟨y,p⟩:=x;have h:=ub W fm d j g hl hb a hi b hR;rw[hR]at h;exact h
def fD{x:J×J}(k:D5 bs l i 9=x)(m:Ew R<|Ak<|Af #[.agg<|Da 0 0 0 AQ,.agg<|Cf x])(b:CN bs l i=AQ\/(CN bs l i=AP/\∃c,bs[i]?=H c/\(c.toNat=193\/(199<=(c.toNat:J)/\(c.toNat:J)<=203)\/(212<=(c.toNat:J)/\(c.toNat:J)<=216)))):Ar As 167 #[.agg<|Ct bs fm d l,C Y i] W λe q=>Ew R e/\A0 W q:=by
 have h:=NK fm d k;have o:=KQ W bs fm d l;have n:=T m;clear k m;unfold Ct;rcases b with f|⟨f,c,g,b|⟨y,v⟩|⟨y,v⟩⟩
 all_goals
  have j:=GJ fm d f;clear f
  try
   first
    |(have w:=M5 g b;clear b)
    |(have w:=Et g;have z:=Df (c:=c) 192 E;have A:=Df (c:=c) 194 E;have B:=Df (c:=c) 195 E;have F:=Df (c:=c) 220 E;have L:=Df (c:=c) 221 E;have N:=Df (c:=c) 222 E;have P:=Df (c:=c) 223 E)
   clear g
  go_enter func167,ntmps167
  go_wp2_with(first
   |(go_at_call 116;refine o.ck (j _) ?_;clear j;intro Q p r s c2 t)
   |(go_at_call 84;refine(h _).mono ?_;clear h r s c2 t;rintro e S ⟨rfl,u⟩;have a:=T<|p.next u)
   |((with_reducible refine zH 4 rfl rfl (O (U W)+1) 0 0 0 AQ ?_ ?_);exact⟨Z,Z,a.c⟩)
   |((with_reducible refine zF 5 _ rfl rfl (O (U W)+2) x ?_ ?_);exact⟨Z,Z,sx E a.a⟩))
  refine JR results167 (a.ai _ _) Z Z Z ⟨n,(a.ai _ _).2.2⟩
def Qq(f:bs[i]?=H c)(h:CN bs l i=AP)(hb:At bs<=200000000){K N:J}(j:Ew R<|Ak<|Af #[.agg<|Da K N ((i:J)+1) AQ,.agg<|Cf (0,0)])(a:(((c.toNat:J)<128)/\K=3/\N=(c.toNat:J))\/((128<=(c.toNat:J)/\(c.toNat:J)<144)/\K=7/\N=(c.toNat:J)-128)\/((144<=(c.toNat:J)/\(c.toNat:J)<160)/\K=6/\N=(c.toNat:J)-144)\/((160<=(c.toNat:J)/\(c.toNat:J)<192)/\K=4/\N=(c.toNat:J)-160)\/((224<=(c.toNat:J))/\K=3/\N=(c.toNat:J)-256)\/(c.toNat=192/\K=0/\N=0)\/(c.toNat=194/\K=1/\N=0)\/(c.toNat=195/\K=2/\N=0)):Ar As 167 #[.agg<|Ct bs fm d l,C Y i] W λe o=>Ew R e/\A0 W o:=by
 have B:=Dk f;have z:=c.toNat_lt;have g:=GJ fm d h;have n:=KQ W bs fm d l;have m:=T j;clear h j;unfold Ct;rcases a with⟨a,rfl,rfl⟩|⟨a,rfl,rfl⟩|⟨a,rfl,rfl⟩|⟨a,rfl,rfl⟩|⟨a,rfl,rfl⟩|⟨a,rfl,rfl⟩|⟨a,rfl,rfl⟩|⟨a,rfl,rfl⟩
 all_goals
  first
   |(have k:=M5 f a;clear a)
   |(have k:=Et f;obtain⟨F,A⟩:=a)
   |(have k:=Et f;try(have s:=Df (c:=c) 192 E;have t:=Df (c:=c) 194 E;have u:=Df (c:=c) 195 E;have v:=Df (c:=c) 220 E;have w:=Df (c:=c) 221 E;have x:=Df (c:=c) 222 E;have y:=Df (c:=c) 223 E))
  clear f;go_enter func167,ntmps167
  go_wp2_with(first
   |(go_at_call 116;refine n.ck (g _) ?_;clear g;intro L b p q c2 r)
   |((with_reducible refine zH 4 rfl rfl (O (U W)+1) 3 ((c.toNat:J)) ((i:J)+1) AQ ?_ ?_);exact⟨Z,Z,b.c⟩)
   |((with_reducible refine zH 4 rfl rfl (O (U W)+1) 7 ((c.toNat:J)-128) ((i:J)+1) AQ ?_ ?_);exact⟨Z,Z,b.c⟩)
   |((with_reducible refine zH 4 rfl rfl (O (U W)+1) 6 ((c.toNat:J)-144) ((i:J)+1) AQ ?_ ?_);exact⟨Z,Z,b.c⟩)
   |((with_reducible refine zH 4 rfl rfl (O (U W)+1) 4 ((c.toNat:J)-160) ((i:J)+1) AQ ?_ ?_);exact⟨Z,Z,b.c⟩)
   |((with_reducible refine zH 4 rfl rfl (O (U W)+1) 3 ((c.toNat:J)-256) ((i:J)+1) AQ ?_ ?_);exact⟨Z,Z,b.c⟩)
   |((with_reducible refine zH 4 rfl rfl (O (U W)+1) 0 (0) ((i:J)+1) AQ ?_ ?_);exact⟨Z,Z,b.c⟩)
   |((with_reducible refine zH 4 rfl rfl (O (U W)+1) 1 (0) ((i:J)+1) AQ ?_ ?_);exact⟨Z,Z,b.c⟩)
   |((with_reducible refine zH 4 rfl rfl (O (U W)+1) 2 (0) ((i:J)+1) AQ ?_ ?_);exact⟨Z,Z,b.c⟩)
   |((with_reducible refine zF 5 _ rfl rfl (O (U W)+2) (0,0) ?_ ?_);exact⟨Z,Z,sx E b.a⟩))
  refine JR results167 (b.ai _ _) Z Z Z ⟨m,(b.ai _ _).2.2⟩
def ue(z:bs[i]?=H c)(w:CN bs l i=AP)(_hb:K bs<=200000000){v:I}{k:J}(A:c.toNat=v)(B:(v,kd,k)∈([(196,5,1),(197,5,2),(198,5,4),(204,3,1),(205,3,2),(206,3,4),(207,3,8),(217,4,1),(218,4,2),(219,4,4)]:AJ<|I×J×J))(P:∀V,Ar As 192 #[.agg<|Ct bs fm d l,C Y i,C Y kd,C Y k] V λe p=>Ew R e/\A0 V p):Ar As 167 #[.agg<|Ct bs fm d l,C Y i] W λe p=>Ew R e/\A0 W p:=by
 have ac:=M5 z A;have u:=GJ fm d w;have N:=KQ W bs fm d l;clear w z A;unfold Ct at *;simp only[IA,LP,Mt,My]at B;rcases B with h|h|h|h|h|h|h|h|h|h
 all_goals
  obtain⟨rfl,rfl,rfl⟩:=h
 let vi:J:=196;let s:J:=0;let k:J:=1;let b:I:=83;rotate_left
 let vi:J:=197;let s:J:=1;let k:J:=2;let b:I:=83;rotate_left
 let vi:J:=198;let s:J:=2;let k:J:=4;let b:I:=83;rotate_left
 let vi:J:=204;let s:J:=0;let k:J:=1;let b:I:=98;rotate_left
 let vi:J:=205;let s:J:=1;let k:J:=2;let b:I:=98;rotate_left
 let vi:J:=206;let s:J:=2;let k:J:=4;let b:I:=98;rotate_left
 let vi:J:=207;let s:J:=3;let k:J:=8;let b:I:=98;rotate_left
 let vi:J:=217;let s:J:=0;let k:J:=1;let b:I:=138;rotate_left
 let vi:J:=218;let s:J:=1;let k:J:=2;let b:I:=138;rotate_left
 let vi:J:=219;let s:J:=2;let k:J:=4;let b:I:=138;rotate_left
 all_goals
  go_enter func167,ntmps167
  go_wp2_with(first
   |(go_at_call 116;refine N.ck (u _) ?_;clear u;intro w2 r c0 c1 c2 c3))
  refine Dl (S:=λt=>A7 t (O<|U W) (Ct bs fm d l) 115) (r.drew.h) B6 λj=>tk 0 b (Ag #[Ae ⟨Aw bs⟩,C Y fm,C Y d,C Y l]) Z B6 GC (λt hZ=>yI 2 hZ Z Z) j <| OY 1 (dst:=(b+1)) (v:=(C Y i)) B6 GC j <| OY 2 (dst:=(b+2)) (v:=(C Y vi)) B6 GC j <| OY 3 (dst:=(b+3)) (v:=(C Y s)) B6 GC j <| OY 4 (dst:=(b+4)) (v:=(C Y k)) B6 GC j <| CH 5 λab x=>?_;go_simp;refine(P _).mono ?_;rintro e w9 ⟨⟨a,n,q,o,F,rfl,aa⟩,Q⟩;simp only[];have f:=T<|r.drew.next Q;have L:=T<|show Ew R (Ak<|Af #[.agg<|Da a n q o,.agg<|Cf F])from⟨a,n,q,o,F,Z,aa⟩;have m:=f.h;refine x.out _ _ m λ_=>?_;clear x;refine OY 6 (dst:=(b+6)) (v:=(.agg<|Da a n q o)) B6 GC m <| OY 7 (dst:=(b+7)) (v:=(.agg<|Cf F)) B6 GC m ?_;have y:=(Do _ (O (U W)+1) (O<|U W) (Da a n q o) E).trans m;refine sH 8 4 (b+6) (g:=(O (U W)+1)) (k:=a) (n:=n) (q:=q) (b:=o) B6 (f.c) (y) ?_;refine sF 9 5 (b+7) (g:=(O (U W)+2)) (F:=F) B6 (sx E f.a) (sx E y) <| CK ?_;dsimp only[b];go_simp;go_wp2;refine JR results167 (f.ai _ _) Z Z Z ⟨L,(f.ai _ _).2.2⟩
def uf(r:bs[i]?=H c)(m:CN bs l i=AP)(_hb:K bs<=200000000){v:I}{k:J}(s:c.toNat=v)(t:(v,kd,k)∈([(220,6,2),(221,6,4),(222,7,2),(223,7,4)]:AJ<|I×J×J))(j:∀V,Ar As 192 #[.agg<|Ct bs fm d l,C Y i,C Y kd,C Y k] V λe f=>Ew R e/\A0 V f):Ar As 167 #[.agg<|Ct bs fm d l,C Y i] W λe f=>Ew R e/\A0 W f:=by
 have L:=M5 r s;have g:=GJ fm d m;have w:=KQ W bs fm d l;clear m r s;unfold Ct at *;simp only[IA,LP,Mt,My]at t;rcases t with h|h|h|h
 all_goals
  obtain⟨rfl,rfl,rfl⟩:=h;go_enter func167,ntmps167
  go_wp2_with(first
   |(go_at_call 116;refine w.ck (g _) ?_;clear g;intro N x y z c2 A)
   |(go_at_call 192;refine(j _).mono ?_;clear j y z c2 A;rintro e P ⟨⟨a,n,q,o,F,rfl,p⟩,B⟩;have b:=T<|x.next B;have u:=T<|show Ew R (Ak<|Af #[.agg<|Da a n q o,.agg<|Cf F])from⟨a,n,q,o,F,Z,p⟩;clear p)
   |((with_reducible refine zH 4 rfl rfl (O (U W)+1) a n q o ?_ ?_);exact⟨Z,Z,b.c⟩)
   |((with_reducible refine zF 5 _ rfl rfl (O (U W)+2) F ?_ ?_);exact⟨Z,Z,sx E b.a⟩))
  refine JR results167 (b.ai _ _) Z Z Z ⟨u,(b.ai _ _).2.2⟩
def ug(A:bs[i]?=H c)(P:CN bs l i=AP)(_hb:K bs<=200000000){v:I}{k:J}(hv:c.toNat=v)(hw:(v,k)∈([(208,1),(209,2),(210,4),(211,8)]:AJ<|I×J))(hx:(CN bs l (i+1)=AQ/\Ew R (Ak<|Af #[.agg<|Da 0 0 0 AQ,.agg<|Cf<|D5 bs l (i+1) 9]))\/(CN bs l (i+1)=AP/\∀V,Ar As 193 #[.agg<|Ct bs fm d l,C Y i,C Y k] V λe b=>Ew R e/\A0 V b)):Ar As 167 #[.agg<|Ct bs fm d l,C Y i] W λe b=>Ew R e/\A0 W b:=by
 have ag:=M5 A hv;have af:=Dk A;have N:=GJ fm d P;have HX:=KQ W bs fm d l;have hh:(∀V,Ar As 116 #[Ag #[Ae ⟨Aw bs⟩,C Y fm,C Y d,C Y l],C Y<|(i:J)+1] V λe b=>e=Ak (Ah AQ)/\A0 V b)/\(∀V,Ar As 84 #[Ag #[Ae ⟨Aw bs⟩,C Y fm,C Y d,C Y l],C Y<|(i:J)+1,C Y 9] V λe b=>e=Ak (.agg<|Cf<|D5 bs l (i+1) 9)/\A0 V b)/\D (Ew R<|Ak<|Af #[.agg<|Da 0 0 0 AQ,.agg<|Cf<|D5 bs l (i+1) 9])\/(∀V,Ar As 116 #[Ag #[Ae ⟨Aw bs⟩,C Y fm,C Y d,C Y l],C Y<|(i:J)+1] V λe b=>e=Ak (Ah AP)/\A0 V b)/\(∀V,Ar As 193 #[.agg<|Ct bs fm d l,C Y i,C Y k] V λe b=>Ew R e/\A0 V b) :=
  hx.imp (λh=>⟨λV=>GJ fm d h.1 V,λV=>M3 V bs fm d l (i+1) 9,h.2⟩) λh=>⟨λV=>GJ fm d h.1 V,h.2⟩
 generalize D5 bs l (i+1) 9=x at hh;clear P A hv hx;unfold Ct at *;simp only[IA,LP,Mt,My]at hw;rcases hw with h|h|h|h
 all_goals
  obtain⟨rfl,rfl⟩:=h
 let vi:J:=208;let s:J:=0;let k:J:=1;rotate_left
 let vi:J:=209;let s:J:=1;let k:J:=2;rotate_left
 let vi:J:=210;let s:J:=2;let k:J:=4;rotate_left
 let vi:J:=211;let s:J:=3;let k:J:=8;rotate_left
 all_goals
  rcases hh with⟨z,L,w⟩|⟨z,cP⟩
 all_goals
  go_enter func167,ntmps167
  go_wp2_with(first
   |(go_at_call 116;refine HX.ck (N _) ?_;clear N;intro w2 ab p r c2 t)
   |(go_at_call 116;refine ab.ck (z _) ?_;clear z p r c2 t;intro w4 y p r c2 t)
   |(go_at_call 84;refine y.ck (L _) ?_;clear L p r c2 t;intro w3 m p r c2 t)
   |((with_reducible refine zH 4 rfl rfl (O (U W)+1) 0 0 0 AQ ?_ ?_);exact⟨Z,Z,m.c⟩)
   |((with_reducible refine zF 5 _ rfl rfl (O (U W)+2) x ?_ ?_);exact⟨Z,Z,sx E m.a⟩))
  try refine JR results167 (m.ai _ _) rfl rfl rfl ⟨w,(m.ai _ _).2.2⟩
 all_goals
  refine Dl (S:=λB=>A7 B (O<|U W) (Ct bs fm d l) 115) (y.drew.h) B6 λj=>Ch 0 123 (Ag #[Ae ⟨Aw bs⟩,C Y fm,C Y d,C Y l]) Z (λB hZ=>yI 2 hZ Z Z) j <| Cb 1 124 (C Y i) j <| Cb 2 125 (C Y vi) j <| Cb 3 126 (C Y s) j <| Cb 4 127 (C Y k) j <| CH 5 λae Q=>?_;go_simp;refine(cP _).mono ?_;rintro e w9 ⟨⟨a,n,q,o,F,rfl,ad⟩,ac⟩;simp only[];have f:=T<|y.drew.next ac;have w:=T<|show Ew R (Ak<|Af #[.agg<|Da a n q o,.agg<|Cf F])from⟨a,n,q,o,F,Z,ad⟩;have u:=f.h;refine Q.out _ _ u λ_=>?_;clear Q;refine Cb 6 129 (.agg<|Da a n q o) u <| Cb 7 130 (.agg<|Cf F) u ?_;have aa:=(Do _ (O (U W)+1) (O<|U W) (Da a n q o) E).trans u;refine sH 8 4 129 B6 (f.c) (aa) ?_;refine sF 9 5 130 (g:=(O (U W)+2)) (F:=F) B6 (sx E f.a) (sx E aa) <| CK ?_;go_simp;go_wp2;refine JR results167 (f.ai _ _) Z Z Z ⟨w,(f.ai _ _).2.2⟩
def uh:(List.range 256).all (λc=>AR<|(c/32=7->(c%32<20\/22<c%32)->(E7 c).1=0)/\(c/32=6->(E7 c).1=0)/\(c/32<6->27<c%32->(E7 c).1=0)/\(c/32<6->c%32<24->E7 c=(G6<|c/32,0,c%32))/\(c/32<6->24<=c%32->c%32<=27->E7 c=(G6<|c/32,2^(c%32-24),0)))=AP:=B6
def ui:(c.toNat/32=7->(c.toNat%32<20\/22<c.toNat%32)->(E7 c.toNat).1=0)/\(c.toNat/32=6->(E7 c.toNat).1=0)/\(c.toNat/32<6->27<c.toNat%32->(E7 c.toNat).1=0)/\(c.toNat/32<6->c.toNat%32<24->E7 c.toNat=(G6<|c.toNat/32,0,c.toNat%32))/\(c.toNat/32<6->24<=c.toNat%32->c.toNat%32<=27->E7 c.toNat=(G6<|c.toNat/32,2^(c.toNat%32-24),0)):=Dr<|Hi.1 uh c.toNat<|Hj.2 c.toNat_lt
def uj:(List.range 6).all (λu=>AR<|¬G6 u=0/\Lv u=J7 (G6 u)/\¬G6 u=5/\(G6 u=6↔u=1))=AP:=B6
theorem TY{u:I}(h:u<6):¬G6 u=0/\Lv u=J7 (G6 u)/\¬G6 u=5/\(G6 u=6↔u=1):=Dr<|Hi.1 uj u<|Hj.2 h
theorem fE{u w:I}(h:u<6)(a:u=1):nR (G6 u) w x = -1-min (x:J) 9223372036854775807:=by grind [nR,TY]
theorem fF{u w:I}(h:u<6)(a:¬u=1):nR (G6 u) w x=min (x:J) 9223372036854775807:=by grind [nR,TY]
theorem XG{u:I}(h:u<6):In (G6 u) x=AR (9223372036854775807<x):=by grind [In,TY]
theorem TZ(c:I):DS 3 c=DD c:=rfl
theorem fG(fm:J)(hl:Lm bs l lim)(hi:Cx bs lim i):(CN bs l i=AQ/\Eo fm bs lim i=.error (D5 bs l i 9))\/(CN bs l i=AP/\∃c,bs[i]?=H c/\¬(i:J)=lim/\Cx bs lim (i+1)/\D5 bs l i 9=(9,(i:J))):=by
 rcases hc:bs[i]? with _|c
 .exact AF ⟨Id hc,by unfold Eo;rw[hc,IN hi.1 hc 9]⟩
 grind [Hs,Eo,Gl,J5,Eu,Ie]
theorem ul(W:X)(fm d:J)(hl:Lm bs l lim)(hi:Cx bs lim i)(hb:At bs<=200000000):Ar As 166 #[.agg<|Ct bs fm d l,C Y i] W λe s=>Ew (Eo 2 bs lim i) e/\A0 W s:=by
 rcases fG 2 hl hi with⟨b,u⟩|⟨b,c,a,j,p,v⟩
 .exact fz Z (NY u)<|AF b
 have P:=c.toNat_lt;obtain⟨y,z,A,B,L⟩:=ui;by_cases m:(E7 c.toNat).1=0/\((c.toNat/32=7/\(c.toNat%32<20\/22<c.toNat%32))\/c.toNat/32=6\/(c.toNat/32<6/\27<c.toNat%32))
 .exact fz v (NY<|XF (fm:=2) a j m.1)<|AG ⟨b,c,a,m.2⟩
 have m:=λh=>m ⟨h.elim (λh=>y h.1 h.2) λh=>h.elim z λh=>A h.1 h.2,h⟩;by_cases Q:c.toNat/32=7
 .have f:c.toNat=244\/c.toNat=245\/c.toNat=246:=E;rcases f with f|f|f
  .exact RU (c:=c) a b hb (K:=1) (N:=0) (MQ (Qp a j kf9 B8) Z Z E Z) ⟨_,_,Z,Z,E⟩
  .exact RU a b hb (K:=2) (N:=0) (MQ (Qp a j kf9 B8) Z Z E Z) ⟨_,_,Z,Z,E⟩
  exact RU a b hb (K:=0) (N:=0) (MQ (Qp a j kf9 B8) Z Z E Z) ⟨_,_,Z,Z,E⟩
 have g:c.toNat/32<6:=E;have k:=TY g;by_cases n:c.toNat%32<24
 .have q:=Qp (fm:=2) a j (B g n) k.1;by_cases o:c.toNat/32=1
  .exact RU a b hb (MQ q k.2.1 (by grind [fE]) E<|by grind [XG]) ⟨_,_,Z,Z,AG<|AG<|AG<|AF ⟨g,n,o,Z,Z⟩⟩
  exact RU a b hb (MQ q k.2.1 (by grind [fF]) E<|by grind [XG]) ⟨_,_,Z,Z,AG<|AG<|AG<|AG ⟨g,n,o,Z,Z⟩⟩
 have f:c.toNat%32=24\/c.toNat%32=25\/c.toNat%32=26\/c.toNat%32=27:=E;have w:=L g E E;refine u6 W a b _ (λx=>if c.toNat/32=1 then -1-x else x) Z g Z hl p hb ?_ ?_ λR S F t=>fw (fm:=2) a j p w k.1 t k.2.1 Z (λx r=>?_) (λx r=>by rw[XG g,r])<;>grind [fE,fF]
theorem XH:∀(k p a:I),CZ bs lim k p a=match CZ bs lim k p 0 with
  |.error f=>.error f
  |.ok (y,q)=>.ok (a*256^k+y,q)
 |0,p,a=>kfu
 |k+1,p,a=>by
  rw[CZ,CZ];rcases hc:bs[p]? with _|c
  .rfl
  simp only[];by_cases b:(p:J)=lim
  .rw[Cp b,Cp b]
  rw[Cl b,Cl b,XH k _ _,XH k _<|0*256+c.toNat];obtain f|y:=CZ bs lim k (p+1) 0
  .rfl
  obtain⟨y,q⟩:=y;simp only[];congr 2;rw[Rf,Gg,Wg,Nat.add_mul,Nat.mul_assoc,Wh _<|256^k];omega
theorem uo(x:I):GG x (1:I)=((x:J)+128)%256-128:=by unfold GG;rw[Cp B8];have e:IntKind.i8.wrap x=(x+128)%256-128:=Bj;grind [wrap64]
theorem ur(x:I):GG x (2:I)=((x:J)+32768)%65536-32768:=by unfold GG;rw[Cl B8,Cp B8];have e:IntKind.i16.wrap x=(x+32768)%65536-32768:=Bj;grind [wrap64]
theorem us(x:I):GG x (4:I)=((x:J)+2147483648)%4294967296-2147483648:=by grind [GG,wrap64,wrap32]
theorem ut(x:I):GG x (8:I)=wrap64 x:=by grind [GG]
theorem uu(x:I):GG x (0:I)=wrap64 x:=by grind [GG]
theorem uv(c:AU)(k y:I)(b:k=1\/k=2\/k=4\/k=8)(hy:y<256^(k-1)):GG (c.toNat*256^(k-1)+y) k=Kj c*256^(k-1)+y:=by have a:=c.toNat_lt;grind [uo,Kj,ur,us,ut,wrap64]
theorem uw{c1:AU}(m:bs[i]?=H c)(u:¬(i:J)=lim)(r:bs[i+1]?=H c1)(v:¬((i+1:I):J)=lim)(s:DD c.toNat=(5,k,0))(t:k=1\/k=2\/k=4\/k=8)(hi:Cx bs lim<|i+2){e:Ending}(g:TX (CZ bs lim (k-1) (i+2) 0) c1 i k e):Ew (Eo 3 bs lim i) e:=by
 obtain⟨a,n,q,o,F,rfl,d,l⟩:=g;have j:k=(k-1)+1:=E;have b:CZ bs lim k (i+1) 0=match CZ bs lim (k-1) (i+2) 0 with
  |.error f=>.error f
  |.ok (y,q)=>.ok (c1.toNat*256^(k-1)+y,q):=by
  grind [CZ,XH]
 have e:Eo 3 bs lim i=match CZ bs lim k (i+1) 0 with
  |.error f=>.error f
  |.ok (x,q)=>.ok (5,k,x,q):=by
  grind [Eo,TZ]
 rw[b]at e;rcases hr:CZ bs lim (k-1) (i+2) 0 with f|z
 .grind [NY]
 obtain⟨y,p⟩:=z;rw[hr]at e;obtain⟨rfl,rfl,rfl,rfl,rfl⟩:=d y p hr;have w:=(Qo _ _ 0 y p hi hr).1;have h:=RE _ _ _ _ _ hr;rw[Gg,Nat.one_mul]at h;refine MQ e Z ?_ E Z;grind [nR,uv]
theorem uy(W:X)(fm d:J)(hl:Lm bs l lim)(hi:Cx bs lim i)(hb:K bs<=200000000):Ar As 167 #[.agg<|Ct bs fm d l,C Y i] W λe q=>Ew (Eo 3 bs lim i) e/\A0 W q:=by
 rcases fG 3 hl hi with⟨n,hR⟩|⟨n,c,j,z,L,aa⟩
 .exact fD Z (NY hR)<|AF n
 have ae:=c.toNat_lt;have s:∀b x:I,DD _=(b,0,x)->x<9223372036854775808->¬b=0/\¬b=5/\¬b=6->Ew (Eo 3 bs lim i) (Ak<|Af #[.agg<|Da _ x (i+1) AQ,.agg _]):=λb x g o ⟨u,h5,h6⟩=>MQ (Qp j z g u) Z (by grind [nR]) E (by grind [In]);by_cases t:c.toNat<128
 .have h:=s 4 _ (by unfold DD;rw[Cp t]) E B8;exact Qq j n hb h<|AF ⟨E,Z,Z⟩
 by_cases A:c.toNat<144
 .have h:=s 10 _ (by unfold DD;rw[Cl t,Cp A]) E B8;rw[show(c.toNat-128:I)=(c.toNat:J)-128 by omega]at h;exact Qq j n hb h<|AG<|AF ⟨⟨E,E⟩,Z,Z⟩
 by_cases Q:c.toNat<160
 .have h:=s 9 _ (by unfold DD;rw[Cl t,Cl A,Cp Q]) E B8;rw[show(c.toNat-144:I)=(c.toNat:J)-144 by omega]at h;exact Qq j n hb h<|AG<|AG<|AF ⟨⟨E,E⟩,Z,Z⟩
 by_cases a4:c.toNat<192
 .have h:=s 8 _ (by unfold DD;rw[Cl t,Cl A,Cl Q,Cp a4]) E B8;rw[show(c.toNat-160:I)=(c.toNat:J)-160 by omega]at h;exact Qq j n hb h<|AG<|AG<|AG<|AF ⟨⟨E,E⟩,Z,Z⟩
 by_cases a5:224<=c.toNat
 .have he:DD c.toNat=(5,0,18446744073709551360+c.toNat):=by grind [DD]
  exact Qq j n hb (MQ (Qp j z he B8) Z (by grind [nR,uu,wrap64]) E Z)<|AG<|AG<|AG<|AG<|AF ⟨E,Z,Z⟩
 have o:∀v:I,c.toNat=v->(DD v).1=0->(c.toNat=193\/(199<=(c.toNat:J)/\(c.toNat:J)<=203)\/(212<=(c.toNat:J)/\(c.toNat:J)<=216))->Ar _ _ #[.agg<|Ct bs fm d l,.int _ i] W _:=λv a g F=>fD aa (NY<|XF j z<|by rw[TZ,a];exact g)<|AG ⟨n,c,j,F⟩;have R:∀(v b k:I) (m:J),c.toNat=v->DD v=(b,k,0)/\k<=8/\m=J7 b/\¬b=0/\¬b=5/\¬b=6->∀V,Ar _ _ #[.agg<|Ct bs fm d l,.int _ i,.int _ m,.int _ k] V λe q=>Ew (Eo 3 bs lim i) e/\A0 V q:=λv b k m a ⟨g,h8,af,u,h5,h6⟩ V=>Ce (tZ h8 hl L hb) λe q h=>by obtain⟨⟨nv,ov,ad,rfl,hB⟩,h2⟩:=h;grind [fw,TZ,nR,In]
 have ac:∀(v k:I),c.toNat=v->DD v=(5,k,0)->(k=1\/k=2\/k=4\/k=8)->(CN bs l (i+1)=AQ/\Ew (Eo 3 bs lim i) (Ak<|Af #[.agg<|Da 0 0 0 AQ,.agg<|Cf<|D5 bs l (i+1) 9]))\/(CN bs l (i+1)=AP/\∀V,Ar As 193 #[.agg<|Ct bs fm d l,C Y i,C Y k] V λe q=>Ew (Eo 3 bs lim i) e/\A0 V q):=λv k a g B=>by
  have ab:DD c.toNat=(5,k,0):=by rw[a];exact g
  have e:∀f,CZ bs lim k (i+1) 0=.error f->Eo 3 bs lim i=.error f:=λf hf=>by grind [Eo,TZ]
  have ek:k=(k-1)+1:=E;rcases hc1:bs[i+1]? with _|c1
  .grind [Id,NY,CZ,IN]
  by_cases P:((i+1:I):J)=lim
  .grind [Hs,NY,CZ,Gl]
  have S:=Eu L hc1 P;exact AG ⟨J5 hl L hc1 P,λV=>Ce (ud E E hl hb S hc1) λe' q h=>⟨uw j z hc1 P ab B S h.1,h.2⟩⟩
 have p:∀(v b k:I) (m:J),c.toNat=v->(v,m,(k:J))∈([(196,5,1),(197,5,2),(198,5,4),(204,3,1),(205,3,2),(206,3,4),(207,3,8),(217,4,1),(218,4,2),(219,4,4)])/\DD v=(b,k,0)/\k<=8/\m=J7 b/\¬b=0/\¬b=5/\¬b=6->Ar _ _ _ W _:=λv b k m a ⟨r,g⟩=>ue j n hb a r<|R v b k m a g;have y:∀(v b k:I) (m:J),c.toNat=v->(v,m,(k:J))∈([(220,6,2),(221,6,4),(222,7,2),(223,7,4)])/\DD v=(b,k,0)/\k<=8/\m=J7 b/\¬b=0/\¬b=5/\¬b=6->Ar _ _ _ W _:=λv b k m a ⟨r,g⟩=>uf j n hb a r<|R v b k m a g;have w:∀v (k:I),c.toNat=v->(v,(k:J))∈([(208,1),(209,2),(210,4),(211,8)])/\DD v=(5,k,0)/\(k=1\/k=2\/k=4\/k=8)->Ar _ _ _ W _:=λv k a ⟨r,g,B⟩=>ug j n hb a r<|ac v k a g B;have N:∀v b:I,c.toNat=v->DD v=(b,0,0)/\(¬b=0/\¬b=5/\¬b=6)/\((v=192/\J7 b=0)\/(v=194/\J7 b=1)\/(v=195/\J7 b=2))->Ar _ _ #[.agg<|Ct bs fm d l,.int _ i] W _:=λv b a ⟨g,u,F⟩=>Qq j n hb (s b 0 (by rw[a];exact g) B8 u)<|AG<|AG<|AG<|AG<|AG E;have a:c.toNat=192\/c.toNat=193\/c.toNat=194\/c.toNat=195\/c.toNat=196\/c.toNat=197\/c.toNat=198\/c.toNat=199\/c.toNat=200\/c.toNat=201\/c.toNat=202\/c.toNat=203\/c.toNat=204\/c.toNat=205\/c.toNat=206\/c.toNat=207\/c.toNat=208\/c.toNat=209\/c.toNat=210\/c.toNat=211\/c.toNat=212\/c.toNat=213\/c.toNat=214\/c.toNat=215\/c.toNat=216\/c.toNat=217\/c.toNat=218\/c.toNat=219\/c.toNat=220\/c.toNat=221\/c.toNat=222\/c.toNat=223:=E;rcases a with a|a|a|a|a|a|a|a|a|a|a|a|a|a|a|a|a|a|a|a|a|a|a|a|a|a|a|a|a|a|a|a
 .exact N _ 1 a B8
 .exact o _ a Z E
 .exact N _ 2 a B8
 .exact N _ 3 a B8
 .exact p _ 7 1 5 a B8
 .exact p _ 7 2 5 a B8
 .exact p _ 7 4 5 a B8
 .exact o _ a Z E
 .exact o _ a Z E
 .exact o _ a Z E
 .exact o _ a Z E
 .exact o _ a Z E
 .exact p _ 4 1 3 a B8
 .exact p _ 4 2 3 a B8
 .exact p _ 4 4 3 a B8
 .exact p _ 4 8 3 a B8
 .exact w _ 1 a B8
 .exact w _ 2 a B8
 .exact w _ 4 a B8
 .exact w _ 8 a B8
 .exact o _ a Z E
 .exact o _ a Z E
 .exact o _ a Z E
 .exact o _ a Z E
 .exact o _ a Z E
 .exact p _ 8 1 4 a B8
 .exact p _ 8 2 4 a B8
 .exact p _ 8 4 4 a B8
 .exact y _ 9 2 6 a B8
 .exact y _ 9 4 6 a B8
 .exact y _ 10 2 7 a B8
 exact y _ 10 4 7 a B8
def fI(d:J)(hl:Lm bs l lim)(hi:Cx bs lim i)(hb:K bs<=200000000)(p:fm=2\/fm=3):Ar As 132 #[.agg<|Ct bs fm d l,C Y i] W λe k=>Ew (Eo fm bs lim i) e/\A0 W k:=by
 have j:=KQ W bs fm d l;rcases p with rfl|rfl;have c:=λV=>ul V 2 d hl hi hb;rotate_left
 have c:=λV=>uy V 3 d hl hi hb;rotate_left
 all_goals
  clear hl hi hb;unfold Ct at *;go_enter func132,ntmps132
  go_wp2_with fail
  apply (c _).mono;rintro e r ⟨⟨a,n,q,o,F,rfl,f,g⟩,m⟩;have b:=T<|j.next m;have h:=T (⟨a,n,q,o,F,Z,f,g⟩:Ew _ _);clear f g c;simp only[]
  go_wp2_with(first
   |((with_reducible refine zH 4 rfl rfl (O (U W)+1) a n q o ?_ ?_);exact⟨Z,Z,b.c⟩)
   |((with_reducible refine zF 5 _ rfl rfl (O (U W)+2) F ?_ ?_);exact⟨Z,Z,sx E b.a⟩))
  refine JR results132 (b.ai _ _) Z Z Z ⟨h,(b.ai _ _).2.2⟩
def Tryz.infoThR:(prog.info? 101).map (λi=>(i.zero,i.size,i.bytes))=H (H<|.agg Cv,5,80):=B6
structure FV(W:Ap)(A:A3)(y:A3)(V:Ap):Prop where
 h:V.heap[Au (Av W)]?=An (Aj A 115)
 b:V.heap[Au (Av W)+1]?=An (Aj Cv 101)
 a:V.heap[Au (Av W)+2]?=An (Aj (Cf (0,0)) 103)
 d:V.heap[Au (Av W)+3]?=An (Aj y 101)
 ac:A0 W V
def FV.ad(h:FV W A y V):Jj W A V:=⟨h.h,h.b,h.a,h.ac⟩
theorem FV.next(h:FV W A y V)(hb:A0 V V'):FV W A y V' :=
 ⟨Ca (Co hb _<|Cd h.h) h.h,Ca (Co hb _<|Cd h.b) h.b,Ca (Co hb _<|Cd h.a) h.a,Ca (Co hb _<|Cd h.d) h.d,Cs h.ac<|CG hb h.ac.size⟩
def FV.size(h:FV W A y V):O (U W)+4<=O (U V):=Cd h.d
def uF(W:X)(y:A3):FV W A y<|(Az (Az (Az (Az W<|M A 115)<|M Cv 101)<|M (Cf (0,0)) 103)<|M Cv 101).setRow (O (U W)+3) y:=by
 have h:=da (W:=W) (A:=A);have c:O (U<|Az (Az (Az W<|M A 115)<|M Cv 101)<|M (Cf (0,0)) 103)=O (U W)+3:=Ba;have b:=Cj (Az (Az (Az W<|M A 115)<|M Cv 101)<|M (Cf (0,0)) 103) (o:=(M Cv 101));rw[c]at b;generalize(Az (Az (Az W<|M A 115)<|M Cv 101)<|M (Cf (0,0)) 103)=V at *;have a:=h.next<|Cm (o:=(M Cv 101))
 exact⟨sx E a.h,sx E a.b,sx E a.a,CR _ _ _ _ _ _ b,Dq a.ac E⟩
theorem uG(W:X):(Az (Az (Az (Az W<|M A 115)<|M Cv 101)<|M (Cf (0,0)) 103)<|M Cv 101).heap[O (U W)+3]?=H (M Cv 101):=by have a:O (U<|Az (Az (Az W<|M A 115)<|M Cv 101)<|M (Cf (0,0)) 103)=O (U W)+3:=Ba;grind [Cj]
def uH{wr:X}(a:A3)(f:A3)(b:Below (O (U wr)+2) (Az (Az wr<|M (Cf (0,0)) 103)<|M Cv 101) w2):A0 wr (AD (AD w2 (O (U wr)+1) a) (O<|U wr) f) :=
 Dq (Dq (Cs ((Cm).alloc Ba _)<|CG b E) E)<|Cr _
def XI(r:AS (AI×AI)<|AJ (AM Unit)×AH):AS (AI×AI)<|AM Unit×AH:=match r with
 |.error e=>.error e
 |.ok (ds,q)=>.ok (.agg ds,q)
theorem fK{q:I}(h:∀a,DW bs lim a q=.ok ((),q))(b:bs[q]?=H c):¬(q:J)=lim:=λe=>by have:=h 1;grind [DW]
theorem fL{α:Type}(hl:Lm bs l lim){itF:α->I->A5 α}{p1:I}{acc:α}{R:A5 α}(hi:Cx bs lim p)(e:p1=EG bs l (K bs+1-p) p)(a:Gp bs lim itF last p acc=R):Cx bs lim p1/\((∃c,bs[p1]?=H c/\CN bs l p1=AP/\c.toNat=last/\R=.ok (acc,p1+1)/\Cx bs lim (p1+1))\/((CN bs l p1=AQ\/∃c,bs[p1]?=H c/\CN bs l p1=AP/\¬c.toNat=last)/\Pa bs lim itF last (K bs+1-p1) p1 acc R)):=by
 unfold Gp at a;rcases MI hl (K bs+1-p) p hi with⟨q,h,i,b,j,r⟩|⟨q,h,i,b,j⟩
 .rw[i]at e;subst e;rw[h]at a;simp only[]at a;have o:=r<|AY hi.1;refine⟨b,?_⟩;have s:∀f,FU bs lim itF last (K bs+1-p1) p1 acc=f->Pa bs lim itF last (K bs+1-p1) p1 acc f:=λf k=>by
   obtain⟨g,n⟩:∃g,K bs+1-p1=g+1:=⟨K bs-p1,AY b.1⟩
   rw[n]at k ⊢;rw[eW,n,o _]at k;exact⟨b,AF ⟨g,Z,k⟩⟩
  rcases d:bs[p1]? with _|c
  .grind [Id]
  rw[d]at a;simp only[]at a;have t:=fK o d;grind [J5,Eu]
 rw[i]at e;subst e;rw[h]at a;simp only[]at a;obtain⟨c,d⟩:∃c,bs[p1]?=H c:=⟨_,D7 j⟩
 have m:Cx bs lim p1:=⟨E,E⟩
 exact⟨m,AG ⟨AF<|Hs hl d b,m,AG ⟨b,j,a.symm⟩⟩⟩
theorem uI{α:Type}(hl:Lm bs l lim){itF:α->I->A5 α}{p2:I}{acc acc':α}{R:A5 α}(hi:Cx bs lim p2)(e:p3=EG bs l (K bs+1-p2) p2)(k:itF acc p=.ok (acc',p2))(a:Ql bs lim itF last g p acc=R):Cx bs lim p3/\p2<=p3/\((CN bs l p3=AQ/\R=.error (D5 bs l p3 9))\/∃c,bs[p3]?=H c/\CN bs l p3=AP/\((c.toNat=last/\R=.ok (acc',p3+1)/\Cx bs lim (p3+1))\/(¬c.toNat=last/\c.toNat=44/\Cx bs lim (p3+1)/\FU bs lim itF last g (p3+1) acc'=R)\/(¬c.toNat=last/\¬c.toNat=44/\R=.error (D5 bs l p3 9)))):=by
 unfold Ql at a;rw[k]at a;simp only[]at a;rcases MI hl (K bs+1-p2) p2 hi with⟨q,f,h,d,i,j⟩|⟨q,f,h,d,i⟩
 .rw[h]at e;subst e;rw[f]at a;simp only[]at a;refine⟨d,i,?_⟩;rcases b:bs[p3]? with _|c
  .rw[b]at a;exact AF ⟨Id b,by rw[IN d.1 b];exact a.symm⟩
  rw[b]at a;simp only[]at a;have m:=fK (j<|AY hi.1) b;grind [J5,Eu,Ie]
 rw[h]at e;subst e;rw[f]at a;simp only[]at a;obtain⟨c,b⟩:∃c,bs[p3]?=H c:=⟨_,D7 i⟩
 refine⟨⟨E,E⟩,AY hi.2,AF ⟨Hs hl b d,?_⟩⟩;grind [Gl]
def uJ(hl:Lm bs l lim){q:I}(b:(q:J)=lim)(g:q<K bs):EG bs l (K bs+1-q) q=q/\CN bs l q=AQ/\D5 bs l q 9=(8,(q:J)):=by
 obtain⟨c,e⟩:∃c,bs[q]?=H c:=⟨_,D7 g⟩
 refine⟨?_,Hs hl e b,Gl hl e b 9⟩;rcases MI hl (K bs+1-q) q ⟨E,E⟩with⟨i,f,a,d,h,_⟩|⟨i,f,a,d,h⟩
 .have:=d.2;rw[a];omega
 rw[a];omega
def FH(kl:AJ A1)(ds:AJ<|AM Unit):AJ<|Lit×AM Unit:=(kl.zip ds).map λx=>(.string x.1,x.2)
theorem XJ(h:K kl=K ds)(l:A1)(d:A2):FH (kl++[l]) (ds++[d])=FH kl ds++[(.string l,d)]:=by unfold FH;rw[List.zip_append h,Kb];rfl
theorem U0(h:K kl=K ds):K (FH kl ds)=K ds:=by grind [FH]
def XK:∀{kl:AJ A1} {ds:AJ<|AM Unit},K kl=K ds->(FH kl ds).map NQ=kl.map CX
 |[],[],_=>rfl
 |[],_::_,h=>BB
 |_::_,[],h=>BB
 |l::kl,d::ds,h=>by have a:=XK Bu;unfold FH at a ⊢;rw[List.zip_cons_cons,I8,I8,I8,a];rfl
theorem fM{key:Lit}{d:A2}(h:(FH kl ds)[i]?=H (key,d)):ds[i]?=H d/\∃l,key=.string l:=by grind [FH]
structure G8(k:AH)(V:Ap)(b:AH)(kv u:Aq)(ex:AH->Prop)(kl:AJ A1)(ds:AJ (AM Unit)):Prop where
 q:V.ownsRow b 9 1 kv (At kl) (kl.map CX)
 c:IR k V b u (λj=>An j=Ax kv\/ex j) ds
 len:At kl=At ds
 e:∀g,Ax kv=An g->¬(Ax u)=An g
 a:∀g,Ax kv=An g->¬ex g
 d:∀g,Ax u=An g->¬ex g
def uK:G8 k V b Cq Cq ex [] []:=⟨Fi _ _ _ _,XB,rfl,(λg h=>Bs),(λg h=>Bs),(λg h=>Bs)⟩
def O0{size:I}(h:V.ownsRow b t size u n xs)(l:∀j,Ax u=H j->b<=j->j<O (U V)->V'.heap[j]?=V.heap[j]?):V'.ownsRow b t size u n xs:=by
 refine⟨h.1,?_⟩;rcases h.2 with i|⟨g,d,f,e,a,c,k⟩
 .exact AF i
 exact AG ⟨g,d,f,e,a,Ca (l g kfs a<|Cd c) c,k⟩
theorem G8.next(h:G8 k V b kv u ex kl ds)(t:O (U V)<=O (U V'))(l:∀j,b<=j->j<O (U V)->¬ex j->V'.heap[j]?=V.heap[j]?):G8 k V' b kv u ex kl ds:=by refine⟨O0 h.q λj e f g=>l j f g<|h.a j e,?_,h.len,h.e,h.a,h.d⟩;obtain⟨s,f,g⟩:=h.c;refine⟨s,O0 f λj e o p=>l j o p<|h.d j e,λi d q=>?_⟩;obtain⟨a,m,n⟩:=g i d q;exact⟨a,m,n.same (λj c=>⟨c.1,AY c.2.1,c.2.2⟩) λj c=>l j c.1 c.2.1 λr=>c.2.2.2<|AG r⟩
theorem G8.ac{ex':I->Prop}(h:G8 k V b kv u ex kl ds)(hx:∀j,ex' j->ex j\/O (U V)<=j):G8 k V b kv u ex' kl ds:=by
 refine⟨h.q,?_,h.len,h.e,λg e l=>?_,λg e l=>?_⟩
 .obtain⟨n,f,q⟩:=h.c;refine⟨n,f,λi d r=>?_⟩;obtain⟨a,o,p⟩:=q i d r;refine⟨a,o,p.same (λj m=>⟨m.1,m.2.1,m.2.2.1,λs=>?_⟩) λ_ _=>rfl⟩;grind
 .rcases hx g l with c|c
  .exact h.a g e c
  have:=En h.q e;omega
 obtain⟨n,f,_⟩:=h.c;rcases hx g l with c|c
 .exact h.d g e c
 have:=En f e;omega
def G8.map(h:G8 k V b kv u ex kl ds)(t:B<=b):CV (k+1) V (λj=>B<=j/\j<O (U V)) (.agg<|Cg 7 0 ⟨#[]⟩ kv u)<|.map<|FH kl ds:=by
 obtain⟨s,o,p⟩:=h.c;have hF:∀g,b<=g->g<O (U V)->B<=g/\g<O (U V):=λg v r=>⟨E,r⟩
 refine⟨kv,u,s,Z,?_,?_,λi key d q=>?_⟩
 .rw[U0 h.len,XK h.len,<-h.len];exact P6 h.q hF
 .rw[U0 h.len];exact P6 o hF
 obtain⟨e,l,f⟩:=fM q;obtain⟨a,m,n⟩:=p i d e;exact⟨l,a,f,m,n.same (λj c=>⟨AY c.1,c.2.1⟩) λ_ _=>rfl⟩
def Qr(kl:AJ A1)(ds:AJ<|AM Unit)(l:A1)(r:AS (AI×AI)<|AM Unit×AH):AS (AI×AI)<|(AJ A1×AJ (Lit×AM Unit))×AH:=match r with
 |.error e=>.error e
 |.ok (d,q)=>.ok ((l::kl.reverse,FH kl ds++[(.string l,d)]),q)
def fN{l:A1}{r':AS (J×J)<|AM Unit×I}(h:GI bs lim r r'):GI bs lim (Qr kl ds l r)<|Qr kl ds l r':=by
 rcases h with rfl|⟨q,a,b,c,x,d⟩
 .exact AF Z
 rw[a,d];exact AG ⟨q,Z,b,c,_,Z⟩
theorem uL{x:AU}(hl:Lm bs l lim)(hi:Cx bs lim p):(CN bs l p=AQ/\Dt bs lim [x] p=.error (D5 bs l p 9))\/(∃c,bs[p]?=H c/\CN bs l p=AP/\¬(p:J)=lim/\((¬c=x/\Dt bs lim [x] p=.error (D5 bs l p 9))\/(c=x/\Cx bs lim (p+1)/\Dt bs lim [x] p=.ok ((),p+1)))):=by
 rw[Dt];rcases hc:bs[p]? with _|c
 .exact AF ⟨Id hc,by rw[IN hi.1 hc]⟩
 simp only[];by_cases a:(p:J)=lim
 .grind [Hs,Gl]
 rw[Cl a];refine AG ⟨c,Z,J5 hl hi hc a,a,?_⟩;by_cases b:c=x
 .rw[Cp b];exact AG ⟨b,Eu hi hc a,Z⟩
 grind [Ie]
theorem uM(hl:Lm bs l lim)(S:∀p:I,(p:J)=lim->p<K bs->rd p=.error (8,(p:J)))(hi:Cx bs lim p){R:AS (J×J)<|(AJ A1×AJ (Lit×AM Unit))×I}(a:FF bs lim rd (kl.reverse,FH kl ds) p=R):(CN bs l p=AQ/\R=.error (D5 bs l p 9))\/∃c,bs[p]?=H c/\CN bs l p=AP/\((¬c.toNat=34/\R=.error (D5 bs l p 9))\/(c.toNat=34/\Cx bs lim (p+1) /\
   ((∃f,DA bs lim (K bs+1-(p+1)) (p+1) [] 0=.error f/\R=.error f)\/∃t r,DA bs lim (K bs+1-(p+1)) (p+1) [] 0=.ok (t,r)/\Cx bs lim r/\p+1<r /\
    ((t∈kl/\R=.error (D5 bs l (r-1) 12))\/(¬t∈kl/\Cx bs lim (EG bs l (K bs+1-r) r) /\
     ((∃f,Dt bs lim [58] (EG bs l (K bs+1-r) r)=.error f/\R=.error f)\/∃b,Dt bs lim [58] (EG bs l (K bs+1-r) r)=.ok ((),b)/\Cx bs lim b/\r<b/\Cx bs lim (EG bs l (K bs+1-b) b)/\b<=EG bs l (K bs+1-b) b/\∀h,GI bs lim (rd<|EG bs l (K bs+1-b) b) h->GI bs lim R (Qr kl ds t h))))))):=by
 unfold FF Jk at a;rcases uL (x:=34) hl hi with⟨i,d⟩|⟨c,v,i,V,⟨d,g⟩|⟨d,g,B⟩⟩
 .grind
 .rw[g]at a;exact AG ⟨c,v,i,AF ⟨λe=>d<|PO.1<|Ca e keJ,a.symm⟩⟩
 rw[B]at a;simp only[]at a;refine AG ⟨c,v,i,AG ⟨by rw[d];rfl,g,?_⟩⟩;rcases ht:DA bs lim (K bs+1-(p+1)) (p+1) [] 0 with f|x
 .grind
 obtain⟨t,r⟩:=x;rw[ht]at a;have y:=TQ _ _ _ _ _ _ g ht;have L:=(Qh _ _ _ _ _ _ ht).1;refine AG ⟨t,r,Z,y,L,?_⟩;simp only[aE]at a;by_cases w:t∈kl
 .grind [RP]
 rw[Cl w]at a;simp only[]at a;refine AG ⟨w,?_⟩;rcases MI hl (K bs+1-r) r y with⟨q,k,m,n,N,_⟩|⟨q,k,m,n,N⟩
 .rw[k]at a;rw[m];simp only[]at a;refine⟨n,?_⟩;rcases hw:Dt bs lim [58] q with f|x
  .grind
  obtain⟨_,b⟩:=x;rw[hw]at a;obtain⟨P,o⟩:=RO _ _ _ n hw;simp only[FN,J2]at P;refine AG ⟨b,Z,o,E,?_⟩;simp only[]at a;rcases MI hl (K bs+1-b) b o with⟨Q,s,u,z,A,_⟩|⟨Q,s,u,z,A⟩
  .rw[s]at a;rw[u];refine⟨z,A,λh j=>?_⟩;have F:=fN (kl:=kl) (ds:=ds) (l:=t) j;grind [Qr]
  rw[s]at a;rw[u];refine⟨⟨E,E⟩,AY o.2,λh j=>?_⟩;have F:=fN (kl:=kl) (ds:=ds) (l:=t) j;grind [Qr]
 rw[k]at a;rw[m];refine⟨⟨E,E⟩,AF ⟨_,?_,a.symm⟩⟩;grind [Dt]
def uN{V2:X}(h:FV W A y V2)(d:V2.ownsRow (O (U W)+4) 101 5 u m xs)(a:(Az V2 o).grownBy w5<|Ax u):FV W A y w5:=by have g:=h.size;have b:∀j,j<O (U W)+4->w5.heap[j]?=V2.heap[j]?:=λj c=>Ca (a.block j B7 λe=>AY<|DK d e.symm)<|CB _ _ _ E;have f:O (U V2)+1<=O (U w5):=kev;exact⟨Ca (b _ E) h.h,Ca (b _ E) h.b,Ca (b _ E) h.a,Ca (b _ E) h.d,Cs h.ac ⟨a.os,a.tape,a.output,E,λj c=>b j E⟩⟩
def uO{n:J}{s:AT}(h:FV W A (Cg kd n s kv u) V):FV W A (Cg kd n s kv v')<|AB V ⟨O (U W)+3,4,Ao⟩ v':=by have a:∀j,j≠O (U W)+3->(AB V ⟨_,4,Ao⟩ v').heap[j]?=V.heap[j]?:=λj b=>CY V _ _ _ BG;refine⟨Ca (a _ E) h.h,Ca (a _ E) h.b,Ca (a _ E) h.a,?_,Cs h.ac ⟨Z,Z,Z,Bd,λj b=>a j E⟩⟩;rw[DX _ _ _ _ _ _ h.d];rfl
def U1{n:J}{s:AT}{a b:A4}{q:I}:∀u∈[Value.int Y kd,C Y n,.string s,G a i j,G b p q],u.oneCell'=AP:=λu c=>by simp at c;rcases c with rfl|rfl|rfl|rfl|rfl<;>rfl
structure Qs(W W':Ap)(kv u:Aq):Prop where
 os:W'.os=W.os
 tape:W'.tape=W.tape
 output:W'.output=W.output
 size:Au (Av W)<=Au (Av W')
 block:∀j,j<Au (Av W)->An j≠Ax kv->An j≠Ax u->W'.heap[j]?=W.heap[j]?
def U2(h:A0 W W'):Qs W W' kv u:=⟨h.os,h.tape,h.output,h.size,λj a _ _=>Co h j a⟩
def fO(k:AH)(bs:A1)(lim:AI)(W:Ap)(b:AH)(kv u:Aq)(ex:AH->Prop)(kl:AJ A1)(ds:AJ<|AM Unit)(r:AS (AI×AI)<|(AJ A1×AJ (Lit×AM Unit))×AH)(e:Ending)(W':Ap):Prop :=
 Qs W W' kv u/\∃r',GI bs lim r r'/\match r' with
 |.ok (x,q)=>Cx bs lim q/\∃l dd a n c a' n' c',x=(l::kl.reverse,FH kl ds++[(.string l,dd)])/\e=Ak (Af #[.agg<|Cg 7 0 ⟨#[]⟩ (Ac a n c)<|Ac a' n' c',Ab Al q,.agg<|Cf (0,0)])/\G8 k W' b (Ac a n c) (Ac a' n' c') ex (kl++[l]) (ds++[dd])
 |.error f=>∃kd n s a i j b p m z,e=Ak (Af #[.agg<|Cg kd n s (Ac a i j)<|Ac b p m,Ab Al z,.agg<|Cf f])
structure FI(W:Ap)(A y:A3)(V:Ap):Prop where
 h:V.heap[Au (Av W)]?=An (Aj A 115)
 d:V.heap[Au (Av W)+1]?=An (Aj y 101)
 b:V.heap[Au (Av W)+2]?=An (Aj Cv 101)
 a:V.heap[Au (Av W)+3]?=An (Aj (Cf (0,0)) 103)
 ac:A0 W V
structure Kl(W:Ap)(A y:A3)(Z:Ap):Prop where
 h:Z.heap[Au (Av W)]?=An (Aj A 115)
 d:Z.heap[Au (Av W)+1]?=An (Aj y 101)
def FI.s(h:FI W A y V):Kl W A y V:=⟨h.h,h.d⟩
def Kl.set(h:Kl W A y V)(j:I)(cs:A3)(a:O (U W)+2<=j):Kl W A y<|AD V j cs:=⟨sx E h.h,sx E h.d⟩
def Kl.lt(h:Kl W A y V):O (U W)+1<O (U V):=Cd h.d
def Kl.new(h:Kl W A y V)(o:Obj):Kl W A y<|Az V o:=⟨Ca (CB _ _ _<|AY h.lt) h.h,Ca (CB _ _ _ h.lt) h.d⟩
theorem FI.next(h:FI W A y V)(hb:A0 V V'):FI W A y V' :=
 ⟨Ca (Co hb _<|Cd h.h) h.h,Ca (Co hb _<|Cd h.d) h.d,Ca (Co hb _<|Cd h.b) h.b,Ca (Co hb _<|Cd h.a) h.a,Cs h.ac<|CG hb h.ac.size⟩
theorem FI.drew(h:FI W A y V):FI W A y V.drew:=⟨h.h,h.d,h.b,h.a,h.ac.drew⟩
def FI.size(h:FI W A y V):O (U W)+4<=O (U V):=Cd h.a
def FI.set(h:FI W A y V)(j:I)(cs:A3)(a:O (U W)+4<=j):FI W A y (AD V j cs) :=
 ⟨sx E h.h,sx E h.d,sx E h.b,sx E h.a,Dq h.ac E⟩
theorem uP(W:X):FI W A y<|Az (Az (Az (Az W<|M A 115)<|M y 101)<|M Cv 101)<|M (Cf (0,0)) 103:=by have e:=Cj W (o:=(M A 115));have b:=Cj (Az W<|M A 115) (o:=(M y 101));have c:=Cj (Az (Az W<|M A 115)<|M y 101) (o:=(M Cv 101));have a:=Cj (Az (Az (Az W<|M A 115)<|M y 101)<|M Cv 101) (o:=(M (Cf (0,0)) 103));simp only[CL,A0]at b c a;have d:Below _ W<|Az (Az (Az (Az W<|M A 115)<|M y 101)<|M Cv 101)<|M (Cf (0,0)) 103:=(((Cm).alloc Ba _).alloc B7 _).alloc B7 _;refine⟨?_,?_,?_,a,d⟩<;>grind [Below.heap_alloc]
def FI.ai(h:FI W A y V)(z:A3)(x:J×J):(AD (AD V (O (U W)+2) z) (O (U W)+3)<|Cf x).heap[O (U W)+2]?=H (M z 101)/\(AD (AD V (O (U W)+2) z) (O (U W)+3)<|Cf x).heap[O (U W)+3]?=H (M (Cf x) 103)/\A0 W (AD (AD V (O (U W)+2) z) (O (U W)+3)<|Cf x):=by
 refine⟨?_,?_,Dq (Dq h.ac E) E⟩
 .rw[Do _ _ _ _ E];exact CR _ _ _ _ _ _ h.b
 exact CR _ _ _ _ _ _<|sx E h.a
def FI.map(h:FI W A y V)(c:G8 k W b kv u ex kl ds):G8 k V b kv u ex kl ds:=c.next h.ac.size λj _ a _=>Co h.ac j a
structure Io(W:Ap)(y:A3)(kv u:Aq)(V:Ap):Prop where
 d:V.heap[Au (Av W)+1]?=An (Aj y 101)
 b:V.heap[Au (Av W)+2]?=An (Aj Cv 101)
 a:V.heap[Au (Av W)+3]?=An (Aj (Cf (0,0)) 103)
 c:Qs W V kv u
def Io.size(h:Io W y kv u V):O (U W)+4<=O (U V):=Cd h.a
def FI.w(h:FI W A y V)(a u:Aq):Io W y a u V:=⟨h.d,h.b,h.a,U2 h.ac⟩
theorem Io.drew(h:Io W y kv u V):Io W y kv u V.drew:=⟨h.d,h.b,h.a,⟨h.c.os,h.c.tape,h.c.output,h.c.size,h.c.block⟩⟩
theorem Io.a2(h:Io W y kv u V){x:Option I}(hx:∀g,x=H g->g<O (U W)/\(x=Ax kv\/x=Ax u))(a:(Az V o).grownBy w5 x):Io W y kv u w5:=by have l:=h.size;have k:O (U V)+1<=O (U w5):=kev;have b:∀j,O (U W)<=j->j<O (U V)->w5.heap[j]?=V.heap[j]?:=λj c i=>Ca (a.block j B7 λe=>B9)<|CB _ _ _ i;refine⟨Ca (b _ E E) h.d,Ca (b _ E E) h.b,Ca (b _ E E) h.a,Ca a.os h.c.os,Ca a.tape h.c.tape,Ca a.output h.c.output,E,λj c d f=>?_⟩;refine Ca (a.block j B7 λe=>?_)<|Ca (CB _ _ _ E)<|h.c.block j c d f;grind
theorem Io.cell{n:J}{s:AT}(h:Io W (Cg kd n s kx ux) kv u V)(a:Aq):Io W (Cg kd n s a ux) kv u (AB V ⟨O (U W)+1,3,Ao⟩ a)/\Io W (Cg kd n s kx a) kv u (AB V ⟨O (U W)+1,4,Ao⟩ a):=by
 have b:∀i j,j≠O (U W)+1->(AB V ⟨_,i,Ao⟩ a).heap[j]?=V.heap[j]?:=λi j c=>CY V _ _ _ BO;have d:∀i,Qs W (AB V _ a) kv u:=λi=>⟨h.c.os,h.c.tape,h.c.output,by have:=h.c.size;grind [World.setCell],λj c e f=>Ca (b i j E)<|h.c.block j c e f⟩
 refine⟨⟨?_,Ca (b _ _ E) h.b,Ca (b _ _ E) h.a,d 3⟩,⟨?_,Ca (b _ _ E) h.b,Ca (b _ _ E) h.a,d 4⟩⟩
 .rw[DX _ _ _ _ _ _ h.d];rfl
 rw[DX _ _ _ _ _ _ h.d];rfl
def Io.ai(h:Io W y kv u V)(z:A3)(x:J×J):(AD (AD V (O (U W)+2) z) (O (U W)+3)<|Cf x).heap[O (U W)+2]?=H (M z 101)/\(AD (AD V (O (U W)+2) z) (O (U W)+3)<|Cf x).heap[O (U W)+3]?=H (M (Cf x) 103)/\Qs W (AD (AD V (O (U W)+2) z) (O (U W)+3)<|Cf x) kv u:=by
 refine⟨?_,?_,h.c.os,h.c.tape,h.c.output,B2 h.c.size,λj c a b=>?_⟩
 .rw[Do _ _ _ _ E];exact CR _ _ _ _ _ _ h.b
 .exact CR _ _ _ _ _ _<|sx E h.a
 rw[Do _ _ _ _ E,Do _ _ _ _ E];exact h.c.block j c a b
theorem uQ{V12 w13 w13' w14 wf:X}{u':Aq}{t:A1}{d:A2}(o:G8 k W b kv u ex kl ds)(ah:∀j,ex j->j<O (U W))(r:W.ownsRow b 101 5 u (K ds) xs)(h2:∀(i:I) (d:A2),ds[i]?=H d->∃a,Hu xs i a/\CV k W (λj=>b<=j/\j<O (U W)/\H j≠Ax u/\¬(H j=Ax kv\/ex j)) (.agg a) d)(hb:b<=O (U W))(aa:∀j,j<O (U W)->V12.heap[j]?=W.heap[j]?)(ac:CV k V12 (λj=>L<=j/\j<S) (.agg a) d)(hL:O (U W)+4<=L)(hS:S<=O (U V12))(h4:O (U W)+4<=O (U V12))(ha:a.size=5)(x:w13.ownsRow b 9 1 v' (K kl+1)<|kl.map CX++[CX t])(ai:∀j,j<O (U V12)->H j≠Ax kv->w13.heap[j]?=V12.heap[j]?)(Q:Ax v'=Ax kv\/Ax v'=H (O (U V12)+1))(an:O (U V12)+1<=O (U w13))(af:∀j,j≠O (U W)+1->w13'.heap[j]?=w13.heap[j]?)(ar:O (U w13')=O (U w13))(A:w14.ownsRow b 101 5 u' (K ds+1)<|xs++a.toList)(aj:∀j,j<O (U w13')->H j≠Ax u->w14.heap[j]?=w13'.heap[j]?)(ae:Ax u'=Ax u\/Ax u'=H (O (U w13')+1))(ao:O (U w13')+1<=O (U w14))(hf:∀j,(j<O (U W)\/O (U W)+4<=j)->wf.heap[j]?=w14.heap[j]?)(au:O (U w14)<=O (U wf)):G8 k wf b v' u' ex (kl++[t])<|ds++[d]:=by
 have am:∀g,Ax kv=H g->g<O (U W):=λg e=>En o.q e;have ap:∀g,Ax u=H g->g<O (U W):=λg e=>En r e;have aq:∀g,Ax v'=H g->g<O (U w13):=λg e=>En x e;have y:∀j,(j<O (U W)\/O (U W)+4<=j)->j<O (U V12)->H j≠Ax kv->H j≠Ax u->wf.heap[j]?=V12.heap[j]?:=λj c al m n=>B9;have B:∀j,j<O (U V12)->H j≠Ax kv->¬H j=Ax v':=λj c m e=>B9;have F:∀j,j<O (U V12)->H j≠Ax u->H j≠Ax u':=λj c m e=>B9;have ag:∀g,Ax v'=H g->¬(Ax u)=H g:=λg e n=>by
  rcases Q with h|h
  .exact o.e g (Ca h.symm e) n
  grind
 refine⟨?_,⟨xs++a.toList,?_,λi V f=>?_⟩,by rw[Dj,Dj,o.len];rfl,λg m n=>?_,λg e l=>?_,λg e l=>?_⟩
 .rw[Dj,Kb];refine⟨x.1,?_⟩;rcases x.2 with h|⟨g,p,q,e,v,l,s⟩
  .exact AF h
  have ak:=Cd l;have ab:Ax v'=H g:=kfs;have ad:g<O (U W)\/O (U W)+4<=g:=B9;refine AG ⟨g,p,q,e,v,?_,s⟩;grind
 .rw[Dj];refine⟨A.1,?_⟩;rcases A.2 with h|⟨g,p,q,e,v,l,s⟩
  .exact AF h
  have ab:Ax u'=H g:=kfs;have ad:g<O (U W)\/O (U W)+4<=g:=B9;refine AG ⟨g,p,q,e,v,?_,s⟩;grind
 .by_cases z:i<K ds
  .rw[Hh z]at f;obtain⟨R,m,n⟩:=h2 i V f;exact⟨R,Xz r.1 z m,n.same (λj c=>⟨c.1,AY c.2.1,F j (AY c.2.1) c.2.2.1,λw=>w.elim (B j (AY c.2.1) λe=>c.2.2.2<|AF e) λe=>c.2.2.2<|AG e⟩) λj c=>Ca (y j (AF c.2.1) (AY c.2.1) (λe=>c.2.2.2<|AF e) c.2.2.1)<|aa j c.2.1⟩
  have e:i=K ds:=B9;subst e;rw[Jd<|Cr _,Rg]at f;injection f with f;subst f;have N:∀j,O (U W)<=j->H j≠Ax kv:=λj c e=>B9;have P:∀j,O (U W)<=j->H j≠Ax u:=λj c e=>B9;exact⟨a,XA r.1 ha,ac.same (λj c=>⟨AY c.1,AY c.2,F j (AY c.2)<|P j<|AY c.1,λw=>w.elim (B j (AY c.2)<|N j<|AY c.1) λe=>B9⟩) λj c=>y j (AG<|AY c.1) (AY c.2) (N j<|AY c.1)<|P j<|AY c.1⟩
 .grind
 .rcases Q with h|h
  .exact o.a g (Ca h.symm e) l
  grind
 rcases ae with h|h
 .exact o.d g (Ca h.symm e) l
 grind
def Tryz.infoStrR:(prog.info? 9).map (λi=>(i.zero,i.size,i.bytes))=H (H<|.string ByteArray.empty,1,16):=B6
def fP{l:AT}:∀u∈[Value.string l],u.oneCell'=AP:=λu a=>by simp at a;subst a;rfl
def M9{x:Option I}(a:(Az V o).grownBy w5 x)(b:j<O (U V))(hx:H j≠x):w5.heap[j]?=V.heap[j]?:=(a.block j B7 hx).trans<|CB _ _ _ b
theorem uR{ka ua:A4}{kn kc un uc:I}(hl:Lm bs l lim)(hi:Cx bs lim i)(hb:K bs<=281474976710656)(dm:lim<=200000000)(hm:G8 k W b (G ka kn kc) (G ua un uc) ex kl ds)(dl:K kl<=200000000)(cs:∀ai:I,(ai:J)=lim->ai<K bs->rd ai=.error (8,(ai:J)))(dj:b<=O (U W))(cq:∀j,ex j->j<O (U W))(d3:0<=dp)(d4:dp<=100000)(cJ:∀V (ai:I),Cx bs lim ai->Ar As 90 #[.agg<|Ct bs fm d l,C Y ai,C Y<|dp+1] V (Fc k bs lim V<|rd ai)):Ar As 164 #[.agg<|Ct bs fm d l,.agg<|Cg 7 0 ⟨#[]⟩ (G ka kn kc)<|G ua un uc,C Y i,C Y dp] W<|fO k bs lim W b (G ka kn kc) (G ua un uc) ex kl ds<|FF bs lim rd (kl.reverse,FH kl ds) i:=by
 obtain⟨dh,hR⟩:=DF<|FF bs lim rd (kl.reverse,FH kl ds) i;rw[hR];have HM:=C9 hm;have HX:D<|FI W (Ct bs fm d l) (Cg 7 0 ⟨#[]⟩ (G ka kn kc)<|G ua un uc)<|Az (Az (Az (Az W<|Aj #[Ae ⟨Aw bs⟩,C Y fm,C Y d,C Y l] 115)<|Aj #[C Y 7,C Y 0,Ae ⟨#[]⟩,G ka kn kc,G ua un uc] 101)<|Aj #[C Y 0,C Y 0,Ae ⟨#[]⟩,G Ao 0 0,G Ao 0 0] 101)<|Aj #[C Y 0,C Y 0] 103:=uP W;have b3:=λV (h:G8 k V b (G ka kn kc) (G ua un uc) ex kl ds) t=>dg (F:=(λ_=>True)) t (P6 h.q λ_ _ _=>trivial) dl;rcases uM hl cs hi hR with⟨h1,h2⟩|⟨cn,hc,h1,⟨hv,h2⟩|⟨hv,cr,h⟩⟩
 case' inr.inr=>have dk:=Et hc;have d1:((cn.toNat:J) != 34)=AQ:=by rw[hv];rfl
 case' inr.inr=>have cQ:=λV=>eN V fm d hl cr hb dm;unfold Ct at cQ;rcases h with⟨F,hr,h2⟩|⟨tt,ac,hr,bn,d6,⟨bm,h2⟩|⟨bm,hq,⟨F,hw,h2⟩|⟨p3,hw,cv,dr,cw,dn,cp⟩⟩⟩
 case' inr.inr.inr.inr.inr =>
  have bq:D (∀V (ai:I),Cx bs lim ai->Ar As 90 #[Ag #[Ae ⟨Aw bs⟩,C Y fm,C Y d,C Y l],C Y ai,C Y<|dp+1] V (Fc k bs lim V<|rd ai)):=cJ;obtain⟨si,dw,dt,du,dv⟩:=DL Tryz.infoStrR;obtain⟨ti,d0,dx,dy,dz⟩:=DL Tryz.infoThR;have bw:=C9 cw;have da:=C9 cp;have bp:=C9 dj;have c6:=C9 cq;obtain⟨xs,cy,cx⟩:=hm.c;have ba:=C9 cy;have df:=C9 cx;have co:=λV=>Ty V fm d l hb cv.1;have d5:=cv.1;generalize EG bs l (K bs+1-p3) p3=p4 at *;obtain⟨F,bf⟩:∃F:J×J,D<|F=(0,0):=⟨_,show _=_ from rfl⟩
  have h2:True:=trivial;clear cy cx cw cp dn dr
 case' inl=>have cB:=NK fm d (rfl:D5 bs l i 9=_)
 case' inr.inl=>have dk:=Et hc;have cB:=NK fm d (rfl:D5 bs l i 9=_);have d1:((cn.toNat:J) != 34)=AP:=B7
 case' inr.inr.inl =>
  have ct:(F.1==0)=AQ:=B2<|RK (bs:=bs) (lim:=lim) _ _ _ _ F.1 F.2 hr;obtain⟨ao,HG⟩:∃ao,D<|ao=F:=⟨_,show _=_ from rfl⟩
  rw[<-AE HG]at hr ct;rw[hr]at cQ;dsimp only[NV]at cQ;let zb:I:=40
 case' inr.inr.inr.inl =>
  have dq:=bn.1;rw[hr]at cQ;have cK:=λV h=>b3 V h tt;rw[Fm bm]at cK;have cB:∀V,Ar As 84 #[Ag #[Ae ⟨Aw bs⟩,C Y fm,C Y d,C Y l],C Y<|(ac:J)-1,C Y 12] V λe W'=>e=Ak (.agg<|Cf<|D5 bs l (ac-1) 12)/\A0 V W':=λV=>by have h:=M3 V bs fm d l (ac-1) 12;rw[show((ac-1:I):J)=(ac:J)-1 by omega]at h;exact h
 all_goals try
  have h:=hw;clear h;rw[hr]at cQ;have cK:=λV h=>b3 V h tt;rw[FO bm]at cK;have cS:=λV=>Ty V fm d l hb bn.1;have cW:∀V,Ar As 127 #[Ag #[Ae ⟨Aw bs⟩,C Y fm,C Y d,C Y l],C Y<|EG bs l (K bs+1-ac) ac,Ae ⟨#[58]⟩] V λe W'=>e=Ak (TA<|Dt bs lim [58]<|EG bs l (K bs+1-ac) ac)/\A0 V W':=λV=>WU V fm d [58] B8 hl hq hb;rw[hw]at cW;dsimp only[Ct,TA]at cW
  first
   |have cu:(F.1==0)=AQ:=by have:=MK (bs:=bs) (lim:=lim) _ _ F.1 F.2 hw;simpa using this
    let zb:I:=63;let z0:J:=0
   |have cu:(F.1==0)=AP:=by rw[AE bf];rfl
    rw[<-AE bf]at cW;let z0:J:=p3
  have dq:=bn.1;generalize EG bs l (K bs+1-ac) ac=q2 at *
 all_goals
  try
   dsimp only[NV]at cQ;obtain⟨ao,HG⟩:∃ao:J×J,D<|ao=(0,0):=⟨_,show _=_ from rfl⟩
   rw[<-AE HG]at cQ;have ct:(ao.1==0)=AP:=by rw[AE HG];rfl
  have HE:=C9 h2;have cH:=GJ fm d h1;clear h2 hR h1 b3 hl hi cs cJ hm cq
  try clear hc
  try clear hr hv cr
  try clear bm bn
  try clear hw hq
  unfold Ct Cg;go_enter func164,ntmps164
  go_wp2_with(first
   |(go_at_call 116;refine Ec (cH _) HX.next (λ_ h=>h.h) ?_;clear cH;intro w2 o c0 c1 c2 c3;have k3:A6 w2 (O (U W)+1) 3<|G ka kn kc:=Cc o.d 3)
   |(go_at_call 128;refine ck (cQ _) o.next ?_;clear cQ;intro w3 cl)
   |(go_at_call 169;refine(cK _<|o.map HM).mono ?_;clear cK;rintro e V4 ⟨rfl,rfl⟩)
   |((with_reducible refine zF 12 36 rfl rfl (O<|U w3) ao ?_ ?_);exact⟨Z,Z,Cj w3⟩;refine FA ?_;intro V4 bo;clear o;have o:=C9<|bo▸cl.next (KP);have aj:=C9<|bo▸CR _ _ _ _ _ _ (Cj _);have an:=C9 cl.size;have cg:=C9<|Cd aj;clear bo;generalize O (U w3)=M at *;clear c0 c1 c2 c3 k3;obtain⟨c0,c1,c2,c3⟩:=Eb o.h;have k3:A6 V4 (O (U W)+1) 3<|G ka kn kc:=Cc o.d 3;have u0:A6 V4 M 0<|C Y ao.1:=Cc aj 0))
 all_goals try
  have h:=cW;clear h;refine Dl (S:=λn=>Kl W (Ct bs fm d l) (Cg 7 0 ⟨#[]⟩ (G ka kn kc)<|G ua un uc) n) o.drew.s B6 λm=>Ch 0 53 (Ag #[Ae ⟨Aw bs⟩,C Y fm,C Y d,C Y l]) Z (λn u=>yI 4 u.h Z Z) m <| Ch 1 54 (Ag #[Ae ⟨Aw bs⟩,C Y fm,C Y d,C Y l]) Z (λn u=>yI 4 u.h Z Z) m <| Cb 2 55 (C Y ac) m <| CH 3 λak a=>?_;go_simp;refine(cS _).mono ?_;rintro e w5 ⟨rfl,b4⟩;simp only[];have b0:=C9<|o.drew.next b4;have br:=C9<|(b4.block _ cg).trans aj;refine a.out _ _ b0.s λ_=>?_;refine CH 4 λak a=>?_;go_simp;refine(cW _).mono ?_;rintro e w6 ⟨rfl,b5⟩;simp only[];have cm:=C9<|b0.next b5;have bt:=C9<|(b5.block _<|Cd br).trans br;have av:=cm.s;refine a.out _ _ av λ_=>?_;refine Cb 5 52 (Af #[C Y z0,.agg<|Cf F]) av <| Cb 6 58 (C Y z0) av <| Cb 7 59 (.agg<|Cf F) av <| Cb 8 2 (C Y z0) av ?_;rw[AE HG]at bt;refine sF 9 12 59 B6 bt (av.set M (Cf F)<|AY<|AE an) <| CK ?_;dsimp only[z0];go_simp;clear o aj u0 c0 c1 c2 c3 k3 m av b0 br cg b4 b5;have o:=C9<|cm.set M (Cf F) an;have aj:=C9<|show(AD w6 M<|Cf F).heap[M]?=_ from CR _ _ _ _ _ _ bt;generalize AD w6 M (Cf F)=V7 at *;clear HG;have u0:A6 V7 M 0<|C Y F.1:=Cc aj 0;go_wp2
 all_goals try
  have h:=aj
  try rw[AE HG]at aj
  refine Dl (S:=λn=>Kl W (Ct bs fm d l) (Cg 7 0 ⟨#[]⟩ (G ka kn kc)<|G ua un uc) n/\A7 n M (Cf F) 103) ⟨o.drew.s,aj⟩ B6 λm=>Ch 0 zb (.agg<|Cg 7 0 ⟨#[]⟩ (G ka kn kc)<|G ua un uc) Z (λn u=>yT 5 u.1.d Z Z) m <| Ch 1 (zb+1) (.agg<|Cf F) Z (λn u=>yF 12 u.2 Z Z) m ?_;have ah:=OL (m.1.set (O (U W)+2) (Cg 7 0 ⟨#[]⟩ (G ka kn kc)<|G ua un uc)<|Cr _)<|(Do _ (O (U W)+2) M (Cg 7 0 ⟨#[]⟩ (G ka kn kc)<|G ua un uc)<|AY<|AE an).trans m.2;refine Ij 2 8 zb B6 o.drew.b thg ah <| Cb 3 9 (C Y 0) ah <| sF 4 10 (zb+1) (F:=F) B6 (sx E o.drew.a) ⟨ah.1.set (O (U W)+3) (Cf F) E,sx (AY<|AE an) ah.2⟩ <| CK ?_;dsimp only[zb];go_simp;go_wp2;refine F4 results164 (o.drew.ai (Cg 7 0 ⟨#[]⟩ (G ka kn kc)<|G ua un uc) F) (C Y 0) Z Z Z Z ⟨U2 (o.drew.ai (Cg 7 0 ⟨#[]⟩ (G ka kn kc)<|G ua un uc) F).2.2,?_⟩;exact⟨.error F,AF HE,_,_,_,_,_,_,_,_,_,_,Z⟩
 rotate_right
 next =>
  have b2:=o;have ay:=aj;rw[AE bf]at ay;clear o aj bf cu u0 HE;refine Dl (S:=λn=>Kl W (Ct bs fm d l) (Cg 7 0 ⟨#[]⟩ (G ka kn kc)<|G ua un uc) n) (b2.drew.s) B6 λm=>Ch 0 66 (Ag #[Ae ⟨Aw bs⟩,C Y fm,C Y d,C Y l]) Z (λn u=>yI 4 u.h Z Z) m <| Ch 1 67 (Ag #[Ae ⟨Aw bs⟩,C Y fm,C Y d,C Y l]) Z (λn u=>yI 4 u.h Z Z) m <| Cb 2 68 (C Y p3) m <| Cb 4 70 (C Y dp) m <| Ch 5 71 (C Y<|dp+1) Z (λn u=>Bo) m <| Hk 3 11 (λak a=>?_) (λak a=>?_)
  focus
   go_simp;refine(co _).mono ?_;rintro e w8 ⟨rfl,a5⟩;simp only[];have a4:=C9<|b2.drew.next a5;have am:=C9<|(a5.block _<|Cd<|show V7.heap[M]?=_ from ay).trans ay;have b7:=a4.s;refine a.out _ _ b7 λ_=>?_;clear a;refine Hk 6 11 (λak a=>?_) (λak a=>?_)
   focus
    go_simp;refine(bq _ p4 bw).mono ?_;rintro e f aq;obtain⟨af,r',N,Q,s,v,A,B,y,q1,P,ae,F,ap,rfl,hA,hF⟩:=MN aq;simp only[];have bv:=C9 ap;have bu:=C9 hF;have p:=C9<|a4.next af;have be:=C9<|(af.block _<|Cd<|show w8.heap[M]?=_ from am).trans am;have a6:=C9 hA;have ch:=C9<|Cd<|show w8.heap[M]?=_ from am;clear aq ap hA hF af;have bc:=p.s;refine a.out _ _ bc λ_=>?_;clear a;refine Cb 7 65 (Af #[.agg<|Cg N Q s (G v A B)<|G y q1 P,C Y ae,.agg<|Cf F]) bc <| Cb 8 73 (.agg<|Cg N Q s (G v A B)<|G y q1 P) bc <| Cb 9 74 (C Y ae) bc <| Cb 10 75 (.agg<|Cf F) bc <| CH 11 λak a=>?_;go_simp;have au:D<|FI W (Ct bs fm d l) (Cg 7 0 ⟨#[]⟩ (G ka kn kc)<|G ua un uc)<|Az f<|Aj Cv 101:=p.next Cm
    have a7:D<|(Az f<|Aj Cv 101).heap[M]?=H (Aj (Cf (0,0)) 103):=(CB _ _ _<|Cd<|show f.heap[M]?=_ from be).trans be;have a9:D<|(Az f<|Aj Cv 101).heap[O<|U f]?=H (Aj Cv 101):=Cj _;have a8:=C9<|Cd<|show f.heap[M]?=_ from be;have al:D (∀R q,r'=.ok (R,q)->Cx bs lim q/\ae=(q:J)/\F=(0,0)/\CV k (Az f<|Aj Cv 101) (λj=>O (U w8)<=j/\j<O (U f)) (.agg<|Cg N Q s (G v A B)<|G y q1 P) R):=λR q h=>⟨(a6 R q h).1,(a6 R q h).2.1,(a6 R q h).2.2.1,(a6 R q h).2.2.2.same (λ_ h=>h) λj hj=>CB _ _ _ hj.2⟩
    have a2:D<|O (U f)<O (U w8)\/O (U f)<=O (U f):=AG<|Cr _;have a0:D<|O (U f)<=O (U<|Az f<|Aj Cv 101):=kfV;have aa:=au.s;refine a.out _ (Az f<|Aj Cv 101) aa λ_=>?_;clear a;generalize Az f (Aj Cv 101)=z at *;obtain⟨S,aw⟩:=IB<|O<|U f;rw[<-aw]at al a2 a0;generalize O (U f)=T at *;clear p be a6;generalize O (U w8)=L at *
   rotate_left
   focus
    go_simp;have bb:D<|FI W (Ct bs fm d l) (Cg 7 0 ⟨#[]⟩ (G ka kn kc)<|G ua un uc)<|Az w8<|Aj Cv 101:=a4.next Cm
    have az:D<|(Az w8<|Aj Cv 101).heap[M]?=H (Aj (Cf (0,0)) 103):=(CB _ _ _<|Cd<|show w8.heap[M]?=_ from am).trans am;have a3:D<|(Az w8<|Aj Cv 101).heap[O<|U w8]?=H (Aj Cv 101):=Cj _;have a8:=C9<|Cd<|show w8.heap[M]?=_ from am;have b8:=bb.s;refine a.out _ (Az w8<|Aj Cv 101) b8 λ_=>?_;clear a;generalize Az w8 (Aj Cv 101)=Va at *;generalize O (U w8)=T at *;refine CH 6 λak a=>?_;go_simp;refine(bq _ p4 bw).mono ?_;rintro e z aq;obtain⟨af,r',N,Q,s,v,A,B,y,q1,P,ae,F,ap,rfl,hA,hF⟩:=MN aq;simp only[];have bv:=C9 ap;have bu:=C9 hF;have au:=C9<|bb.next af;have a7:=C9<|(af.block _<|Cd<|show Va.heap[M]?=_ from az).trans az;have al:=C9 hA;have ch:=C9<|Cd<|show Va.heap[M]?=_ from az;have a9:=C9<|(af.block _<|Cd<|show Va.heap[T]?=_ from a3).trans a3;have a2:D<|T<O (U Va)\/O (U z)<=T:=AF<|Cd<|show Va.heap[T]?=_ from a3;have a0:D<|O (U z)<=O (U z):=Cr _;clear aq ap hA hF af;have aa:=au.s;refine a.out _ _ aa λ_=>?_;clear a;obtain⟨S,aw⟩:=IB<|O<|U z;rw[<-aw]at al a2;have a0:=C9<|OH aw;generalize O (U Va)=L at *;refine Cb 7 65 (Af #[.agg<|Cg N Q s (G v A B)<|G y q1 P,C Y ae,.agg<|Cf F]) aa <| Cb 8 73 (.agg<|Cg N Q s (G v A B)<|G y q1 P) aa <| Cb 9 74 (C Y ae) aa <| Cb 10 75 (.agg<|Cf F) aa ?_
  rotate_left 2
  focus
   go_simp;have bb:D<|FI W (Ct bs fm d l) (Cg 7 0 ⟨#[]⟩ (G ka kn kc)<|G ua un uc)<|V7.drew.alloc<|Aj Cv 101:=b2.drew.next Cm
   have az:D<|(V7.drew.alloc<|Aj Cv 101).heap[M]?=H (Aj (Cf (0,0)) 103):=(CB _ _ _<|Cd<|show V7.drew.heap[M]?=_ from ay).trans ay;have a3:D<|(V7.drew.alloc<|Aj Cv 101).heap[O<|U V7]?=H (Aj Cv 101):=Cj _;have a8:D<|M<O (U V7):=Cd<|show V7.drew.heap[M]?=_ from ay;have b8:=bb.s;refine a.out _ (V7.drew.alloc<|Aj Cv 101) b8 λ_=>?_;clear a;generalize V7.drew.alloc (Aj Cv 101)=Va at *;generalize O (U V7)=T at *;refine CH 3 λak a=>?_;go_simp;refine(co _).mono ?_;rintro e w8 ⟨rfl,a5⟩;simp only[];have a4:=C9<|bb.next a5;have am:=C9<|(a5.block _<|Cd<|show Va.heap[M]?=_ from az).trans az;have bx:=C9<|(a5.block _<|Cd a3).trans a3;have b7:=a4.s;refine a.out _ _ b7 λ_=>?_;clear a;refine CH 6 λak a=>?_;go_simp;refine(bq _ p4 bw).mono ?_;rintro e z aq;obtain⟨af,r',N,Q,s,v,A,B,y,q1,P,ae,F,ap,rfl,hA,hF⟩:=MN aq;simp only[];have bv:=C9 ap;have bu:=C9 hF;have au:=C9<|a4.next af;have a7:=C9<|(af.block _<|Cd<|show w8.heap[M]?=_ from am).trans am;have al:=C9 hA;have ch:=C9<|Cd<|show w8.heap[M]?=_ from am;have a9:=C9<|(af.block _<|Cd<|show w8.heap[T]?=_ from bx).trans bx;have a2:D<|T<O (U w8)\/O (U z)<=T:=AF<|Cd<|show w8.heap[T]?=_ from bx;have a0:D<|O (U z)<=O (U z):=Cr _;clear aq ap hA hF af;have aa:=au.s;refine a.out _ _ aa λ_=>?_;clear a;obtain⟨S,aw⟩:=IB<|O<|U z;rw[<-aw]at al a2;have a0:=C9<|OH aw;generalize O (U w8)=L at *;refine Cb 7 65 (Af #[.agg<|Cg N Q s (G v A B)<|G y q1 P,C Y ae,.agg<|Cf F]) aa <| Cb 8 73 (.agg<|Cg N Q s (G v A B)<|G y q1 P) aa <| Cb 9 74 (C Y ae) aa <| Cb 10 75 (.agg<|Cf F) aa ?_
  all_goals
   have bl:=aa.set T (Cg N Q s (G v A B)<|G y q1 P) (by grind [D]);refine Ij 12 14 73 B6 (a9) thg (bl) <| Cb 13 2 (C Y ae) bl <| sF 14 12 75 B6 (sx (AY<|AE a8) a7) (bl.set M (Cf F)<|AY<|AE an) <| CK ?_;go_simp;have ar:D<|FI W (Ct bs fm d l) (Cg 7 0 ⟨#[]⟩ (G ka kn kc)<|G ua un uc)<|AD (AD z T<|Cg N Q s (G v A B)<|G y q1 P) M<|Cf F:=(au.set T _<|by grind [D]).set M _ an;have ci:D<|(AD (AD z T<|Cg N Q s (G v A B)<|G y q1 P) M<|Cf F).heap[T]?=H (Aj #[C Y N,C Y Q,.string s,G v A B,G y q1 P] 101):=sx (AY<|AE a8)<|CR _ _ _ _ _ _ a9;have cd:D<|(AD (AD z T<|Cg N Q s (G v A B)<|G y q1 P) M<|Cf F).heap[M]?=H (Aj (Cf F) 103):=CR _ _ _ _ _ _<|sx (AY<|AE a8) a7;have c5:D (∀R q,r'=.ok (R,q)->Cx bs lim q/\ae=(q:J)/\F=(0,0)/\CV k (AD (AD z T<|Cg N Q s (G v A B)<|G y q1 P) M<|Cf F) (λj=>L<=j/\j<S) (.agg<|Cg N Q s (G v A B)<|G y q1 P) R):=λR q h=>⟨(al R q h).1,(al R q h).2.1,(al R q h).2.2.1,(al R q h).2.2.2.same (λ_ h=>h) λj hj=>by grind [D,setRow_other]⟩
   have db:D<|S<=O (U<|AD (AD z T<|Cg N Q s (G v A B)<|G y q1 P) M<|Cf F):=Bv;generalize AD (AD z T<|Cg N Q s (G v A B)<|G y q1 P) M (Cf F)=V12 at *;have cf:=C9<|(ar.map HM).q;clear aa bl au a7 a9 al a0 a2;have k3:A6 V12 (O (U W)+1) 3<|G ka kn kc:=Cc ar.d 3
   go_wp2_with(first
    |(at_builtin;(refine JH Z Z underlying98 dw dt du dv Z B8 Z (cf.alloc _) 1 1 Z Z (EU) (fP) B8 Bc E (by have:=ar.size;have:=AE bp;simp;omega) ?_);intro v' c b9 ax cz;obtain⟨r,x,rfl⟩:=ownsRow_succ b9;have bi:D<|Io W (Cg 7 0 ⟨#[]⟩ (G ka kn kc)<|G ua un uc) (G ka kn kc) (G ua un uc) c:=(ar.w _ _).a2 (λg e=>⟨En HM.q e,AF Z⟩) ax;have d2:=C9 ((M9 ax (Cd ci) λe=>by have:=En HM.q e.symm;grind [D]).trans ci);have c7:=C9<|(M9 ax (Cd cd) λe=>B3 (En HM.q e.symm)<|AE an).trans cd;have dc:=C9 (O0 ba λj e h1 h2=>(M9 ax (by grind [D]) λe2=>HM.e j e2.symm e).trans<|ar.ac.block j h2);have bg:D<|c.ownsRow b 9 1 (G (Aa r) (K kl+1) x) (K kl+1) (kl.map CX++[CX tt])/\(∀j,j<O (U V12)->H j≠Ax (AX ka kn kc)->c.heap[j]?=V12.heap[j]?)/\(Ax (AX (Aa r) (K kl+1) x)=Ax (AX ka kn kc)\/Ax (AX (Aa r) (K kl+1) x)=H (O (U V12)+1))/\O (U V12)+1<=O (U c):=⟨b9,λj h1 h2=>M9 ax h1 h2,cz.imp_right λh=>Bv,by have:=ax.size;simp_all⟩;clear b9 ax cz k3 cf;have k3:A6 c (O (U W)+1) 3<|G ka kn kc:=Cc bi.d 3;have f3:=Dy c (O (U W)+1) 3 _ _ bi.d;have k4:(AB c ⟨O (U W)+1,3,Ao⟩<|G (Aa r) (K kl+1) x).cell? ⟨O (U W)+1,4,Ao⟩=H (G ua un uc):=Cc (bi.cell _).1.d 4)
    |((with_reducible refine CO rfl 101 (.tmp 14) rfl (T) ?hx 101 (#[C Y N,C Y Q,.string s,G v A B,G y q1 P]) (0,0) _ ?hg underlying101 rfl ?hi ?_);(case hx=>exact rfl);(case hg=>grind [D,heap_setCell_other]);(case hi=>exact KI);have cj:D<|Io W (Cg 7 0 ⟨#[]⟩ (G (Aa r) (K kl+1) x)<|G ua un uc) (G ka kn kc) (G ua un uc)<|AB c ⟨O (U W)+1,3,Ao⟩<|G (Aa r) (K kl+1) x:=(bi.cell _).1;have ce:D<|(AB c ⟨O (U W)+1,3,Ao⟩<|G (Aa r) (K kl+1) x).heap[M]?=H (Aj (Cf F) 103):=(CY c _ _ _<|by grind [D]).trans c7;have de:D<|(AB c ⟨O (U W)+1,3,Ao⟩<|G (Aa r) (K kl+1) x).ownsRow b 101 5 (G ua un uc) (K ds) xs:=O0 dc λj e h1 h2=>CY c _ _ _<|B0<|En ba e;have cb:D<|(∀j,j≠O (U W)+1->(AB c ⟨O (U W)+1,3,Ao⟩<|G (Aa r) (K kl+1) x).heap[j]?=c.heap[j]?)/\O (U<|AB c ⟨O (U W)+1,3,Ao⟩<|G (Aa r) (K kl+1) x)=O (U c):=⟨λj hj=>CY c _ _ _ kf1,Bd⟩;generalize AB c ⟨O (U W)+1,3,Ao⟩ (G (Aa r) (K kl+1) x)=V13 at *;clear k3 f3)
    |(at_builtin;(refine JH Z Z underlying99 d0 dx dy dz Z B8 Z (de.alloc _) 1 1 Z Z (EU) (U1) B8 (B4 HM.len) (AY HM.len) (by have:=cj.size;have:=AE bp;simp;omega) ?_);intro d7 ad ca bd c4;obtain⟨g2,ab,rfl⟩:=ownsRow_succ ca;have bz:=C9<|cj.a2 (λg e=>⟨En ba e,AG Z⟩) bd;have c8:=C9<|(M9 bd (Cd ce) λe=>B3 (En ba e.symm)<|AE an).trans ce;have bh:D<|ad.ownsRow b 101 5 (G (Aa g2) (K ds+1) ab) (K ds+1) (xs++[C Y N,C Y Q,.string s,G v A B,G y q1 P])/\(∀j,j<O (U V13)->H j≠Ax (AX ua un uc)->ad.heap[j]?=V13.heap[j]?)/\(Ax (AX (Aa g2) (K ds+1) ab)=Ax (AX ua un uc)\/Ax (AX (Aa g2) (K ds+1) ab)=H (O (U V13)+1))/\O (U V13)+1<=O (U ad):=⟨ca,λj h1 h2=>M9 bd h1 h2,c4.imp_right λh=>Bv,by have:=bd.size;simp_all⟩;clear ca bd c4 k4;have k4:A6 ad (O (U W)+1) 4<|G ua un uc:=Cc bz.d 4;have f4:=Dy ad (O (U W)+1) 4 _ _ bz.d))
   have bj:D<|Io W (Cg 7 0 ⟨#[]⟩ (G (Aa r) (K kl+1) x)<|G (Aa g2) (K ds+1) ab) (G ka kn kc) (G ua un uc)<|AB ad ⟨O (U W)+1,4,Ao⟩<|G (Aa g2) (K ds+1) ab:=(bz.cell _).2;have c9:D<|(AB ad ⟨O (U W)+1,4,Ao⟩<|G (Aa g2) (K ds+1) ab).heap[M]?=H (Aj (Cf F) 103):=(CY ad _ _ _<|by grind [D]).trans c8;have cc:D<|(∀j,j≠O (U W)+1->(AB ad ⟨O (U W)+1,4,Ao⟩<|G (Aa g2) (K ds+1) ab).heap[j]?=ad.heap[j]?)/\O (U<|AB ad ⟨O (U W)+1,4,Ao⟩<|G (Aa g2) (K ds+1) ab)=O (U ad):=⟨λj hj=>CY ad _ _ _ kf1,Bd⟩
   generalize AB ad ⟨O (U W)+1,4,Ao⟩ (G (Aa g2) (K ds+1) ab)=V15 at *;clear k4 f4;refine Dl (S:=λn=>A7 n (O (U W)+1) (Cg 7 0 ⟨#[]⟩ (G (Aa r) (K kl+1) x)<|G (Aa g2) (K ds+1) ab) 101/\A7 n M (Cf F) 103) (⟨bj.d,c9⟩) B6 λm=>Ch 0 88 (.agg<|Cg 7 0 ⟨#[]⟩ (G (Aa r) (K kl+1) x)<|G (Aa g2) (K ds+1) ab) Z (λn u=>yT 5 u.1 Z Z) m <| Cb 1 89 (C Y ae) m <| Ch 2 90 (.agg<|Cf F) Z (λn u=>yF 12 u.2 Z Z) m ?_;have bk:=OL ((Do _ (O (U W)+2) (O (U W)+1) (Cg 7 0 ⟨#[]⟩ (G (Aa r) (K kl+1) x)<|G (Aa g2) (K ds+1) ab) E).trans m.1)<|(Do _ (O (U W)+2) M (Cg 7 0 ⟨#[]⟩ (G (Aa r) (K kl+1) x)<|G (Aa g2) (K ds+1) ab)<|AY<|AE an).trans m.2;refine Ij 3 8 88 B6 (bj.drew.b) thg (bk) <| Cb 4 9 (C Y ae) bk <| sF 5 10 90 (g:=(O (U W)+3)) (F:=F) B6 (sx E bj.drew.a) (⟨sx E bk.1,sx (AY<|AE an) bk.2⟩) <| CK ?_;go_simp;go_wp2;have hf:=bj.drew.ai (Cg 7 0 ⟨#[]⟩ (G (Aa r) (K kl+1) x)<|G (Aa g2) (K ds+1) ab)<|F;refine F4 results164 hf (C Y ae) Z Z Z Z ⟨hf.2.2,?_⟩;refine⟨Qr kl ds tt r',da r' bv,?_⟩;obtain di|ag:=r'
   .obtain rfl:=bu.out di rfl;exact⟨_,_,_,_,_,_,_,_,_,_,Z⟩
   obtain⟨R,q⟩:=ag;obtain⟨hq,rfl,rfl,hA⟩:=c5.out R q rfl;refine⟨hq,tt,R,_,_,_,_,_,_,Z,Z,?_⟩;exact uQ HM c6 ba df bp (λj hj=>ar.ac.block j hj) hA (by grind [D]) db ar.size Z bg.1 bg.2.1 bg.2.2.1 bg.2.2.2 cb.1 cb.2 bh.1 bh.2.1 bh.2.2.1 bh.2.2.2 (λj hj=>by rw[Do _ _ _ _ E,Do _ _ _ _ E];exact cc.1 j E)<|B0 cc.2
 all_goals
  obtain⟨ag,hx⟩:∃ag,D (dh=.error ag)/\∀V,Ar As 84 _ V λe W'=>e=Ak (.agg<|Cf ag)/\A0 V W':=⟨_,HE,cB⟩
  obtain⟨HE,cB⟩:=hx;refine Dl (S:=λn=>Kl W (Ct bs fm d l) (Cg 7 0 ⟨#[]⟩ (G ka kn kc)<|G ua un uc) n) o.drew.s B6 λm=>Jg 0 (.agg<|Cg 7 0 ⟨#[]⟩ (G ka kn kc)<|G ua un uc) Z (λn u=>yT 5 u.d Z Z) m <| Jg 1 (Ag #[Ae ⟨Aw bs⟩,C Y fm,C Y d,C Y l]) Z (λn u=>yI 4 u.h Z Z) m ?_
 next =>
  refine Cb 2 49 (C Y ac) m <| Ch 3 50 (C Y<|(ac:J)-1) Z (λn u=>Bo) m <| CH 4 λak a=>?_;go_simp;refine(cB _).mono ?_;rintro e f ⟨rfl,b6⟩;simp only[];have p:=C9<|o.drew.next b6;refine a.out _ _ p.s λ_=>?_;have ah:=p.s.set (O (U W)+2) (Cg 7 0 ⟨#[]⟩ (G ka kn kc)<|G ua un uc)<|Cr _;refine Ij 5 8 47 B6 p.b thg ah <| Cb 6 9 (C Y 0) ah <| sF 7 10 51 B6 (sx E p.a) (ah.set (O (U W)+3) (Cf ag) E) <| CK ?_;go_simp;go_wp2;refine F4 results164 (p.ai (Cg 7 0 ⟨#[]⟩ (G ka kn kc)<|G ua un uc) ag) (C Y 0) Z Z Z Z ⟨U2 (p.ai (Cg 7 0 ⟨#[]⟩ (G ka kn kc)<|G ua un uc) ag).2.2,?_⟩;exact⟨.error ag,AF HE,_,_,_,_,_,_,_,_,_,_,Z⟩
 all_goals
  refine Cb 2 28 (C Y i) m <| CH 3 λak a=>?_;go_simp;refine(cB _).mono ?_;rintro e f ⟨rfl,b6⟩;simp only[];have p:=C9<|o.drew.next b6;refine a.out _ _ p.s λ_=>?_;have ah:=p.s.set (O (U W)+2) (Cg 7 0 ⟨#[]⟩ (G ka kn kc)<|G ua un uc)<|Cr _;refine Ij 4 8 26 B6 p.b thg ah <| Cb 5 9 (C Y 0) ah <| sF 6 10 29 B6 (sx E p.a) (ah.set (O (U W)+3) (Cf ag) E) <| CK ?_;go_simp;go_wp2;refine F4 results164 (p.ai (Cg 7 0 ⟨#[]⟩ (G ka kn kc)<|G ua un uc) ag) (C Y 0) Z Z Z Z ⟨U2 (p.ai (Cg 7 0 ⟨#[]⟩ (G ka kn kc)<|G ua un uc) ag).2.2,?_⟩;exact⟨.error ag,AF HE,_,_,_,_,_,_,_,_,_,_,Z⟩
theorem fQ{α:Type}{itF:α->I->A5 α}{acc:α}{R:A5 α}(h:Pa bs lim itF last g p acc R)(c:GI bs lim (itF acc p)<|.error f)(i:(p:J)=lim->p<K bs->itF acc p=.error (8,(p:J))):R=.error f:=by
 have j:itF acc p=.error f:=by rcases c with h|⟨q,_,_,_,x,b⟩<;>grind
 rcases h.2 with⟨d,_,a⟩|⟨a,e,b⟩<;>grind [Ql]
theorem fS{α:Type}(hl:Lm bs l lim){itF:α->I->A5 α}{q:I}{acc acc':α}{R:A5 α}(h:Pa bs lim itF last g p acc R)(A:GI bs lim (itF acc p)<|.ok (acc',q))(S:(p:J)=lim->p<K bs->itF acc p=.error (8,(p:J)))(z:∀x q,itF acc p=.ok (x,q)->p<q)(r:Cx bs lim q)(Q:K bs+1<=p+g)(i:p3=EG bs l (K bs+1-q) q):Cx bs lim p3/\((CN bs l p3=AQ/\R=.error (D5 bs l p3 9))\/∃c,bs[p3]?=H c/\CN bs l p3=AP/\((c.toNat=last/\R=.ok (acc',p3+1)/\Cx bs lim (p3+1))\/(¬c.toNat=last/\c.toNat=44/\Cx bs lim (p3+1)/\∃a,g=a+2/\p<p3/\FU bs lim itF last (a+1) (p3+1) acc'=R)\/(¬c.toNat=last/\¬c.toNat=44/\R=.error (D5 bs l p3 9)))):=by
 rcases A with s|⟨q',P,m,n,x,d⟩
 .have V:=z acc' q s;rcases h.2 with⟨a,e,o⟩|⟨m,n,d⟩
  .obtain⟨t,B,f⟩:=uI hl r i s o;refine⟨t,?_⟩;rcases f with f|⟨c,j,u,b⟩
   .exact AF f
   refine AG ⟨c,j,u,?_⟩;rcases b with b|⟨F,c2,L,N⟩|b
   .exact AF b
   .have:=Dk j;obtain⟨k,rfl⟩:∃k,a=k+1:=⟨a-1,E⟩
    grind
   exact AG<|AG b
  grind
 injection d with d;injection d with h5 h6;subst h6;obtain⟨v,w,y⟩:=uJ hl m n;rw[v]at i;subst i;refine⟨r,AF ⟨w,?_⟩⟩;rw[y];rcases h.2 with⟨a,_,o⟩|⟨W,k3,k4⟩<;>grind [Ql]
theorem fU{a:AJ A1×AJ (Lit×AM Unit)}(b:(p:J)=lim)(hl:p<K bs):FF bs lim rd a p=.error (8,(p:J)):=by grind [FF,Jk,Dt]
def fV(r:AS (AI×AI)<|(AJ A1×AJ (Lit×AM Unit))×AH):AS (AI×AI)<|AM Unit×AH:=match r with
 |.error e=>.error e
 |.ok (es,q)=>.ok (.map es.2,q)
def uS{n:J}{s:AT}(h:FV W A (Cg kd n s kv u) V)(x:J):FV W A (Cg x n s kv u)<|AB V ⟨O (U W)+3,0,Ao⟩<|C Y x:=by have a:∀j,j≠O (U W)+3->(AB V ⟨O (U W)+3,0,Ao⟩<|C Y x).heap[j]?=V.heap[j]?:=λj b=>CY V _ _ _ BG;refine⟨(a _ E).trans h.h,(a _ E).trans h.b,(a _ E).trans h.a,?_,h.ac.trans ⟨Z,Z,Z,Bd,λj b=>a j E⟩⟩;rw[DX _ _ _ _ _ _ h.d];rfl
theorem uT(h:FV W A y V)(b:Qs V V' kv u)(d:∀g,Ax kv=H g->O (U W)+4<=g)(i:∀g,Ax u=H g->O (U W)+4<=g):FV W A y V':=by have f:=h.size;have a:∀j,j<O (U W)+4->V'.heap[j]?=V.heap[j]?:=λj c=>b.block j E (λe=>B9) λe=>B9;exact⟨(a _ E).trans h.h,(a _ E).trans h.b,(a _ E).trans h.a,(a _ E).trans h.d,h.ac.trans ⟨b.os,b.tape,b.output,b.size,λj c=>a j E⟩⟩
def uU(h:FV W A y V){z:A3}:FV W A z (AD V (O (U W)+3) z) :=
 ⟨sx E h.h,sx E h.b,sx E h.a,CR _ _ _ _ _ _ h.d,Dq h.ac E⟩
def uV(h:FV W A y V)(a:O (U W)+4<=j){z:A3}:FV W A y (AD V j z) :=
 ⟨sx E h.h,sx E h.b,sx E h.a,sx E h.d,Dq h.ac E⟩
def uW(W:X)(fm d:J){n:J}(b:n=min (x:J) 9223372036854775807)(hl:Lm bs l lim)(hi:Cx bs lim i)(hb:K bs<=200000000):Ar As 133 #[.agg<|Ct bs fm d l,C Y i,C Y n,Ah AQ] W λe a=>NV (EV bs lim x i []) e/\A0 W a:=fJ b hl hi hb
def fW(W:X)(fm d:J){n:J}(b:n=min (x:J) 9223372036854775807)(hl:Lm bs l lim)(hi:Cx bs lim i)(hb:K bs<=200000000):Ar As 133 #[.agg<|Ct bs fm d l,C Y i,C Y n,Ah AP] W λe a=>NV (Ds bs lim x i [] 0) e/\A0 W a:=fJ b hl hi hb
theorem fX:∀(k p:I) (a l:A1) (q:I),Cx bs lim p->EV bs lim k p a=.ok (l,q)->Cx bs lim q/\p<=q
 |0,p,a,l,q,hi,h=>by grind [EV]
 |k+1,p,a,l,q,hi,h=>by
  rw[EV]at h;rcases hc:bs[p]? with _|c
  .rw[hc]at h;cases h
  rw[hc]at h;simp only[]at h;by_cases b:(p:J)=lim
  .grind
  rw[Cl b]at h;have:=fX k _ _ l q (Eu hi hc b) h;grind
theorem XL:∀(k p:I) (a:A1) (b:I) (l:A1) (q:I),Cx bs lim p->Ds bs lim k p a b=.ok (l,q)->Cx bs lim q/\p<=q
 |0,p,a,b,l,q,hi,h=>kfF
 |k+1,p,a,b,l,q,hi,h=>by
  rw[Ds]at h;rcases hc:bs[p]? with _|c
  .rw[hc]at h;cases h
  rw[hc]at h;simp only[]at h;by_cases d:(p:J)=lim
  .grind
  rw[Cl d]at h;split at h
  .cases h
  have:=XL k _ _ _ l q (Eu hi hc d) h;grind
def Jn(k:AH)(bs:A1)(lim:AI)(W:Ap)(r:AS (AI×AI)<|AM Unit×AH)(e:Ending)(W':Ap):Prop :=
 A0 W W'/\match r with
 |.ok (d,q)=>Cx bs lim q/\∃kd n s a i j b p m,e=Ak (Af #[.agg<|Cg kd n s (Ac a i j)<|Ac b p m,Ab Al q,.agg<|Cf (0,0)])/\CV k W' (λj=>Au (Av W)<=j/\j<Au (Av W')) (.agg<|Cg kd n s (Ac a i j)<|Ac b p m) d
 |.error f=>∃kd n s a i j b p m z,e=Ak (Af #[.agg<|Cg kd n s (Ac a i j)<|Ac b p m,Ab Al z,.agg<|Cf f])
def XM{e:Ending}(h:Jn k bs lim W r e W'):Fc k bs lim W r e W':=⟨h.1,r,AF rfl,h.2⟩
structure EW(W:Ap)(A H y:A3)(V:Ap):Prop where
 h:V.heap[Au (Av W)]?=An (Aj A 115)
 c:V.heap[Au (Av W)+1]?=An (Aj H 237)
 b:V.heap[Au (Av W)+2]?=An (Aj Cv 101)
 a:V.heap[Au (Av W)+3]?=An (Aj (Cf (0,0)) 103)
 d:V.heap[Au (Av W)+4]?=An (Aj y 101)
 ac:A0 W V
def EW.aq{H:A3}(h:EW W A H y V)(hb:A0 W V')(a:∀j,O (U W)<=j->j<O (U W)+5->V'.heap[j]?=V.heap[j]?):EW W A H y V' :=
 ⟨Ca (a _ E E) h.h,Ca (a _ E E) h.c,Ca (a _ E E) h.b,Ca (a _ E E) h.a,Ca (a _ E E) h.d,hb⟩
def EW.size{H:A3}(h:EW W A H y V):O (U W)+5<=O (U V):=Cd h.d
theorem EW.next{H:A3}(h:EW W A H y V)(hb:A0 V V'):EW W A H y V':=h.aq (Cs h.ac<|CG hb h.ac.size) λj _ a=>Co hb j Bn
theorem EW.drew{H:A3}(h:EW W A H y V):EW W A H y V.drew:=⟨h.h,h.c,h.b,h.a,h.d,h.ac.drew⟩
theorem fY(W:X){H:A3}:EW W A H Cv<|Az (Az (Az (Az (Az W<|M A 115)<|M H 237)<|M Cv 101)<|M (Cf (0,0)) 103)<|M Cv 101:=by have f:=Cj W (o:=(M A 115));have b:=Cj (Az W<|M A 115) (o:=(M H 237));have c:=Cj (Az (Az W<|M A 115)<|M H 237) (o:=(M Cv 101));have d:=Cj (Az (Az (Az W<|M A 115)<|M H 237)<|M Cv 101) (o:=(M (Cf (0,0)) 103));have a:=Cj (Az (Az (Az (Az W<|M A 115)<|M H 237)<|M Cv 101)<|M (Cf (0,0)) 103) (o:=(M Cv 101));simp only[CL,A0]at b c d a;have e:Below _ W<|Az (Az (Az (Az (Az W<|M A 115)<|M H 237)<|M Cv 101)<|M (Cf (0,0)) 103)<|M Cv 101:=((((Cm).alloc B9 _).alloc B9 _).alloc B9 _).alloc B9 _;refine⟨?_,?_,?_,?_,a,e⟩<;>grind [Below.heap_alloc]
def EW.ad{H:A3}(h:EW W A H y V)(z:A3):EW W A H z (AD V (O (U W)+4) z) :=
 ⟨sx E h.h,sx E h.c,sx E h.b,sx E h.a,CR _ _ _ _ _ _ h.d,Dq h.ac E⟩
def EW.else{H:A3}(h:EW W A H y V)(j:I)(b:O (U W)+5<=j)(z:A3):EW W A H y (AD V j z) :=
 h.aq (Dq h.ac E) λi _ a=>Do _ _ _ _ E
def EW.cell{H:A3}{n:J}{s:AT}(h:EW W A H (Cg kd n s kx ux) V)(b:Aq):EW W A H (Cg kd n s b ux) (AB V ⟨O (U W)+4,3,Ao⟩ b)/\EW W A H (Cg kd n s kx b) (AB V ⟨O (U W)+4,4,Ao⟩ b):=by
 have a:∀i j,j≠O (U W)+4->(AB V ⟨_,i,Ao⟩ b).heap[j]?=V.heap[j]?:=λi j c=>CY V _ _ _ BO;have d:∀i,Below _ W<|AB V _ b:=λi=>Cs h.ac ⟨Z,Z,Z,Bd,λj c=>a i j E⟩;refine⟨⟨Ca (a _ _ E) h.h,Ca (a _ _ E) h.c,Ca (a _ _ E) h.b,Ca (a _ _ E) h.a,?_,d 3⟩,⟨Ca (a _ _ E) h.h,Ca (a _ _ E) h.c,Ca (a _ _ E) h.b,Ca (a _ _ E) h.a,?_,d 4⟩⟩
 .rw[DX _ _ _ _ _ _ h.d];rfl
 rw[DX _ _ _ _ _ _ h.d];rfl
theorem EW.a2{H:A3}{x:Option I}(h:EW W A H y V)(hx:∀g,x=An g->O (U W)+5<=g)(a:(Az V o).grownBy w5 x):EW W A H y w5:=by have f:=h.size;have d:O (U V)+1<=O (U w5):=kev;have c:∀j,j<O (U W)+5->w5.heap[j]?=V.heap[j]?:=λj b=>M9 a E λe=>B9;exact h.aq (Cs h.ac ⟨a.os,a.tape,a.output,E,λj b=>c j E⟩) λj _ b=>c j b
def EW.ai{H:A3}(h:EW W A H y V)(z:A3)(x:J×J):(AD (AD V (O (U W)+2) z) (O (U W)+3)<|Cf x).heap[O (U W)+2]?=An (M z 101)/\(AD (AD V (O (U W)+2) z) (O (U W)+3)<|Cf x).heap[O (U W)+3]?=An (M (Cf x) 103)/\A0 W (AD (AD V (O (U W)+2) z) (O (U W)+3)<|Cf x):=by
 refine⟨?_,?_,Dq (Dq h.ac E) E⟩
 .rw[Do _ _ _ _ E];exact CR _ _ _ _ _ _ h.b
 exact CR _ _ _ _ _ _<|sx E h.a
theorem Lw{f:A3}:A0 w2 (((Az (Az w2 o1) o2).setRow (O<|U w2) a).setRow (O (U w2)+1) f) :=
 Dq (Dq ((Cm).alloc Bx _)<|Cr _) E
theorem Gu(w2:X):(Az (Az w2 o1) o2).heap[O<|U w2]?=H o1/\(Az (Az w2 o1) o2).heap[O (U w2)+1]?=H o2:=by grind [Cj,World.size_alloc,Below.heap_alloc]
def MR{w:X}{b f:A3}:(((Az (Az w o)<|M a t).setRow (O<|U w) b).setRow (O (U w)+1) f).heap[O (U w)+1]?=H (M f t):=CR _ _ _ _ _ _<|Ca (Do _ _ _ _ E) (Gu w).2
def RV{w:X}{b f:A3}:(((Az (Az w<|M a t) o).setRow (O<|U w) b).setRow (O (U w)+1) f).heap[O<|U w]?=H (M b t):=Ca (Do _ _ _ _ E)<|CR _ _ _ _ _ _ (Gu w).1
def fZ{A:Act}{w:X}{b x:A3}{s:AN}(h:∀V,D (A0 w V)->D (A7 V (O<|U w) x s)->D (A7 V (O (U w)+1) y t)->wpList P ops Q rest A V):wpList P ops Q rest A<|((Az (Az w<|M a s)<|M b t).setRow (O<|U w) x).setRow (O (U w)+1) y:=h _ (Lw) RV MR
structure IS(k:AH)(V:Ap)(b:AH)(kv u:Aq)(kl:AJ A1)(ds:AJ (AM Unit)):Prop where
 q:V.ownsRow b 9 1 kv (At kl) (kl.map CX)
 c:IR k V b u (λj=>An j=Ax kv) ds
 e:∀g,Ax kv=An g->¬(Ax u)=An g
def uX:IS k V b Cq Cq [] []:=⟨Fi _ _ _ _,XB,λg h=>Bs⟩
theorem IS.next(h:IS k V b kv u kl ds)(c:O (U V)<=O (U V'))(a:∀j,b<=j->j<O (U V)->V'.heap[j]?=V.heap[j]?):IS k V' b kv u kl ds :=
 ⟨TR h.q a,h.c.next c a,h.e⟩
theorem IS.map(h:IS k V b kv u kl ds)(c:K kl=K ds)(v:B<=b):CV (k+1) V (λj=>B<=j/\j<O (U V)) (.agg<|Cg 7 0 ⟨#[]⟩ kv u)<|.map<|FH kl ds:=by
 obtain⟨s,t,p⟩:=h.c;have hF:∀g,b<=g->g<O (U V)->B<=g/\g<O (U V):=λg w r=>⟨E,r⟩
 refine⟨kv,u,s,Z,?_,?_,λi key d q=>?_⟩
 .rw[U0 c,XK c,<-c];exact P6 h.q hF
 .grind [U0,P6]
 obtain⟨f,l,m⟩:=fM q;obtain⟨a,n,o⟩:=p i d f;exact⟨l,a,m,n,o.same (λj e=>⟨AY e.1,e.2.1⟩) λ_ _=>rfl⟩
theorem IS.key{t:A1}(h:IS k V b kv u kl ds)(y:w5.ownsRow b 9 1 v' (K kl+1)<|kl.map CX++[CX t])(n:(Az V o).grownBy w5<|Ax kv)(f:Ax v'=Ax kv\/Ax v'=H (O<|U<|Az V o)):IS k w5 b v' u (kl++[t]) ds:=by
 obtain⟨w,p,q⟩:=h.c;have x:O (U V)+1<=O (U w5):=BZ;have v:∀j,j<O (U V)->H j≠Ax kv->¬H j=Ax v':=λj c s e=>by
  rcases f with f|f
  .exact s<|Ca e f
  rw[f]at e;injection e with e;simp at e;omega
 refine⟨B9,⟨w,O0 p λj e _ c=>M9 n c λm=>h.e j m.symm e,λi d r=>?_⟩,λg l m=>?_⟩
 .obtain⟨a,l,m⟩:=q i d r;exact⟨a,l,m.same (λj c=>⟨c.1,AY c.2.1,c.2.2.1,v j c.2.1 c.2.2.2⟩) λj c=>M9 n c.2.1 c.2.2.2⟩
 rcases f with f|f
 .exact h.e g (Ca f.symm l) m
 have:=En p m;rw[f]at l;injection l with l;simp at l;omega
theorem IS.kid{d:A2}(h:IS k V b kv u kl ds)(p:V.ownsRow b 101 5 u (K ds) xs)(q:∀(i:I) (d:A2),ds[i]?=H d->∃a,Hu xs i a/\CV k V (λj=>b<=j/\j<O (U V)/\H j≠Ax u/\¬H j=Ax kv) (.agg a) d)(t:CV k V (λj=>L<=j/\j<O (U V)) (.agg a) d)(r:∀g,Ax u=H g->g<L)(w:∀g,Ax kv=H g->g<L)(hb:b<=L)(s:a.size=5)(v:w5.ownsRow b 101 5 v' (K ds+1)<|xs++a.toList)(m:(Az V o).grownBy w5<|Ax u)(f:Ax v'=Ax u\/Ax v'=H (O<|U<|Az V o)):IS k w5 b kv v' kl<|ds++[d]:=by
 refine⟨O0 h.q λj e _ n=>M9 m n λc=>h.e j e c.symm,IR.push p q t r hb (λj n e=>B9) s v m f,λg l c=>?_⟩;rcases f with f|f
 .exact h.e g l<|Ca f.symm c
 have:=En h.q l;rw[f]at c;injection c with c;simp at c;omega
end
end Go.Proofs.YtaehkdnabiccnaaGreatDoor


