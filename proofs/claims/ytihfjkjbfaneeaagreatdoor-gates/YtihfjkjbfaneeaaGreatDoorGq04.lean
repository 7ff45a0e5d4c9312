import Derived.Lib.BufferWrite
import Derived.Laws.Concat
import Derived.Laws.Runes
import Derived.Laws.RangeAny
import Derived.Lib.TrimUEq
import Derived.Shelf.Unicode.ValidAny
import Derived.Recover
import Derived.Test.YtihfjkjbfaneeaaGreatDoorGq03
set_option maxRecDepth 100000
set_option maxHeartbeats 8000000
set_option linter.all false
namespace Go.Proofs.YtihfjkjbfaneeaaGreatDoor
open Go.Proofs.Tryz
open _root_ renaming Nat->I,Int->J
open Go.Value renaming int->C,slice->T
open _root_.List renaming length->O
open Go.World renaming heap->U
open _root_.Array renaming size->K
open Go.IntKind renaming i64->Y
open Go.RowKit renaming Hid->D
open Go renaming World->X
open Option renaming some->H
open Go.Obj renaming cells->M
open Go.Value renaming int->Ab,slice->Ac,string->Ae,tuple->Af,agg->Ag,bool->Ah,iface->Ai,ownBlock->Ax
open Go.Obj renaming cells->Aj
open Go.Ending renaming returned->Ak
open Go.IntKind renaming i64->Al,u8->Am
open Option renaming some->An,none->Ao
open Go renaming TypeId->AN,undef->AO,World->Ap,Value->Aq,Calls->Ar
open Go.Proofs.Tryz renaming prog->As
open _root_.List renaming length->At,toArray->Aw
open _root_.Array renaming size->Au,setIfInBounds->Ay
open Go.World renaming setCell->AB,cell?->AC,alloc->Az
open Go.RowKit.Hid renaming out->AE
open _root_ renaming Nat->AH,Int->AI,List->AJ,Bool->AK,ByteArray->AT,UInt8->AU
open _root_.Bool renaming true->AP,false->AQ
open _root_.Decidable renaming decide->AR
variable{P:Program}{sv tv u v v' y z:Aq}{A L N base bytes fuel g i j k lm lo lo' m mn n p pos r row sc size tb x:I}{B V V' W W' W0 w w5:X}{ops:Array Oper}{o:Oper}{a:Act}{Q:Exit->Act->X->Prop}{c d lim:J}{s:AT}{e kt t ty:AN}{arr cur:A3}{b bs key l:A1}{c0:AU}{S:X->Prop}{listed:Array AK}{f mf nf:Lit->Option I}{rs:AJ (AJ (I×A1)×J×J)}{news xs ys:AJ Aq}{pre:AJ DP}{F:Fence}{md:Region.Mode}{st:I->I}{q:D5}{sts:AJ ((I->I)×J×J)}{pa sa:A4}{ix:AK}{es:AJ (AJ Aq×I×J×J)}{ss:AJ (I×A1)}{ks:AJ A1}{R:AJ (I×A1)×J×J}
section
open Go.RowKit Go.Lib
theorem ZW:(madeCells #[z] n).size=n:=by simp[madeCells]
theorem nY(n:I)(h:n+8<=281474976710656)(w:X):(Instr.makeSlice 50 (C Y ((n:J)+8)) (C Y ((n:J)+8))).run As w=.ok (T (Aa (K (U w))) (n+8) (n+8)) (Az w (M (madeCells #[C Am 0] (n+8)) 5)):=by obtain⟨i,b,d,c,a⟩:=DD Tryz.infoU8;have:=run_make w 50 5 i _ underlying50 b d Y Y _ (n+8) E (P6 _) kfp E;rw[this,c];have e:((n:J)+8).toNat=n+8:=E;rw[e,S3];rfl
theorem nZ{rest:AJ Oper}{d s:Operand}{dT:AN}(i:AN)(p:o.op=.call {callee:=.builtin .copy,args:=#[d,s],argTypes:=#[dT,i]})(m:o.guard=Ao){elem:AN}(u:P.underlying dT=H (.slice elem))(r:(P.info? elem).map (·.size)=H 1)(c e:I)(b:AT)(k:a.eval d=T (Aa g) c e)(q:a.eval s=.string b)(l:w.heap[g]?=H (M cur t (0,0)))(n:b.size<=c)(x:b.size<=cur.size)(h:wpList P ops Q rest (a.put o.dst (goInt b.size)) (Go.World.setRow w g (Aw (byteCells b.data.toList++cur.toList.drop b.size)))):wpList P ops Q (o::rest) a w:=by refine Lg m λv j=>?_;have f:=run_copy_row_string w dT i o.type elem g 0 c e b cur t u r l n E;simp only[Gw,RX,KG]at f;unfold Oper.wp;simp[execOp,p,resolve,invoke,builtin,k,q,f,Result.andThen];exact j _ _ h
def J0:A1:=_root_.List.replicate 8 77
def Is(l:A1):A3:=Aw (l.map CJ)
theorem ZX(l:A1):(Is l).size=O l:=by simp[Is]
theorem Qy(l:A1)(j:I):(Is l)[j]?=l[j]?.map CJ:=by simp[Is]
theorem o8{s:A1}(b:cur.size=O s+8):(Aw (byteCells s++cur.toList.drop (O s))).size=O s+8/\∀j,j<O s->(Aw (byteCells s++cur.toList.drop (O s)))[j]?=(Is (s++J0))[j]?:=by
 have a:O (byteCells s)=O s:=by simp[byteCells]
 refine⟨by simp[a];omega,λj c=>?_⟩;rw[Qy,GM E,YE,GM E];simp[byteCells];rfl
theorem od{c:AU}(d:cur.size=O l)(b:k<O l)(a:l[k]?=H c)(h:∀j,j<k->cur[j]?=(Is l)[j]?):(Ay cur k (CJ c)).size=O l/\∀j,j<k+1->(Ay cur k (CJ c))[j]?=(Is l)[j]?:=by grind [Qy]
theorem oe(a:cur.size=O l)(h:∀j,j<O l->cur[j]?=(Is l)[j]?):cur=Is l:=by grind [ZX]
theorem og(W:X){s:A1}(S:O s<=200000000):Ar As 18 #[Ae ⟨Aw s⟩] W λe l=>e=Ak (T (Aa (K (U W))) (O s) (O s+8))/\A7 l (K (U W)) (Is (s++J0)) 5/\A0 W l:=by
 have f:(⟨Aw s⟩:AT).size=O s:=by simp[ByteArray.size]
 have R:=λw=>nY (O s) E w;have m:=o8 (s:=s) (cur:=(madeCells #[C Am 0] (O s+8))) (ZW);have u:O (s++J0)=O s+8:=by simp[J0]
 obtain⟨b,n⟩:=IX (Aw (byteCells s++(madeCells #[C Am 0] (O s+8)).toList.drop (O s)));rw[<-n]at m;have y:D (A0 W ((Az W (M (madeCells #[C Am 0] (O s+8)) 5)).setRow (K (U W)) b)):=Dj Cl (Co _);have A:D (((Az W (M (madeCells #[C Am 0] (O s+8)) 5)).setRow (K (U W)) b).heap[K (U W)]?=H (M b 5)):=CM _ _ _ _ _ _ (Cj _);have B:=G m;go_enter func18,ntmps18
 go_wp2_with(first
  |(refine nZ (dT:=50) 9 Z Z (elem:=5) underlying50 B6 (O s+8) (O s+8) ⟨Aw s⟩ Z Z (Cj _) (by rw[f];omega) (by rw[f,ZW];omega) ?_;rw[f];rw[<-n];generalize(Az W (M (madeCells #[C Am 0] (O s+8)) 5)).setRow (K (U W)) b=V0 at *))
 go_loopg[5] 8 (λg z wr=>∃k:I,z=C Y k/\D (k+g=O s+8/\O s<=k)/\D (A0 W wr)/\∃cur,D (A7 wr (K (U W)) cur 5)/\D (cur.size=O s+8/\∀j,j<k->cur[j]?=(Is (s++J0))[j]?))
 case atStart=>grind
 case round =>
  obtain⟨k,rfl,a,h,cur,d,i⟩:=hrel;obtain _|g:=gk
  .have N:¬(k:J)<(O s:J)+8:=AY (AE a);have F:=G (oe (by grind [D]) (λj t=>i.2 j (AY (AE a))));go_wp2;go_ret;refine⟨Z,?_,h⟩;grind [D]
  have Q:(k:J)<(O s:J)+8:=AY (AE a);have P:¬k<O s:=AY (AE a)
  .have q:=od (c:=77) (cur:=cur) (by grind [D]) E (by grind [J0]) i.2;have L:=Dq wr (K (U W)) k _ _ d;obtain⟨v0,x⟩:∃v,cur[k]?=H v:=⟨_,RT B9⟩
   have V:=(Cb d k).trans x;have o:D ((AB wr ⟨K (U W),k,Ao⟩ (C Am 77)).heap[K (U W)]?=H (M (Ay cur k (CJ 77)) 5)):=by show _=_;rw[DQ _ _ _ _ _ _ d.out];rfl
   have p:D (A0 W (AB wr ⟨K (U W),k,Ao⟩ (C Am 77))):=h.trans ⟨Z,Z,Z,Bd,λj t=>CY wr _ _ _ B7⟩;have r:D ((Ay cur k (CJ 77)).size=O s+8/\∀j,j<k+1->(Ay cur k (CJ 77))[j]?=(Is (s++J0))[j]?):=by rw[<-u];exact q
   go_wp2;go_roundg g
   case measure=>omega
   case rel=>exact⟨k+1,Bb,⟨AY (AE a),AY (AE a)⟩,p,_,o,r⟩
end
section
open Go.RowKit
theorem Iq.of(h:Iq W)(e:∀k,k<K (U W)->k<=1->V.heap[k]?=W.heap[k]?):Iq V:=by have c:∀(g off:I) (v:Aq),g<=1->AC W _=H v->A6 V g off v:=λg off v d b=>(JN (e g (FF b) d)).trans b;refine⟨λu a=>c _ _ _ B8 (h.cb u a),λu a=>?_⟩;obtain⟨f,i,j⟩:=h.pk u a;grind
theorem Iq.lt(h:Iq W):1<K (U W):=FF (h.pk 0 B8).1
theorem Iq.below(h:Iq W)(hb:A0 W V):Iq V:=h.of λk a _=>hb.block k a
theorem Iq.but{b:I}(h:Iq W)(hb:Cg b W V)(d:1<b):Iq V:=h.of λk a c=>hb.block k a E
theorem aO(W:X)(b:I):Ar As 267 #[A8 b] W λe a=>e=Ak (Af #[])/\a=W:=by go_enter func267,ntmps267;go_wp2;go_end0;exact⟨Z,Z⟩
end
section
open Go.RowKit Go.Lib
def Dv(c:AU):AH:=if c.toNat<128 then 1 else if c.toNat<194 then 0 else if c.toNat<224 then 2 else if c.toNat<240 then 3 else if c.toNat<245 then 4 else 0
def Hc(c:AU):AH:=if c.toNat<194 then 0 else if c.toNat=224 then 160 else if c.toNat=240 then 144 else if c.toNat<245 then 128 else 0
def I0(c:AU):AH:=if c.toNat<194 then 0 else if c.toNat=237 then 159 else if c.toNat=244 then 143 else if c.toNat<245 then 191 else 0
theorem pY:(List.range 256).all (λx=>(let c:=_root_.UInt8.ofNat x;decide ((Fx c=0↔Dv c=1)/\(Fx c=1↔Dv c=0)/\(2<=Dv c->Fx c=Dv c/\M4 c=Hc c/\M5 c=I0 c/\128<=Hc c)/\Dv c<=4)))=AP:=B6
theorem Ly(c:AU):(Fx c=0↔Dv c=1)/\(Fx c=1↔Dv c=0)/\(2<=Dv c->Fx c=Dv c/\M4 c=Hc c/\M5 c=I0 c/\128<=Hc c)/\Dv c<=4:=by have h:=GN.1 pY _ (Hn.2 c.toNat_lt);grind [UInt8.ofNat_toNat]
def L1(c0:AU)(j:AH)(c:AU):AK:=(j==1&&(AR (c.toNat<Hc c0)||decide (I0 c0<c.toNat)))||(AR (1<j)&&(AR (c.toNat<128)||decide (191<c.toNat)))
def Kg(bs:A1)(n p:AH)(c0:AU):AH->AH->AH×AK
 |0,_=>(Dv c0,AP)
 |g+1,j=>if n<=p+j then(j,AQ)else match bs[p+j]? with
  |none=>(j,AQ)
  |some c=>if L1 c0 j c=AP then(j,AQ)else Kg bs n p c0 g (j+1)
def Me(bs:A1)(n p:AH)(c0:AU):AH×AK:=if Dv c0=0 then(0,AQ)else Kg bs n p c0 (Dv c0-1) 1
theorem pZ(a c:AU):L1 a 1 c=AP↔(c.toNat<Hc a\/I0 a<c.toNat):=by unfold L1;simp
theorem bg(a c:AU)(j:I)(b:1<j):L1 a j c=AP↔(c.toNat<128\/191<c.toNat):=by grind [L1]
theorem bh(a:AU)(l:A1)(c:AU)(b:O l+1<Dv a):D9 (a::l) c=if L1 a (O l+1) c=AP then 0 else if O l+2=Dv a then 2 else 1:=by
 obtain⟨_,_,d,e⟩:=Ly a;obtain⟨f,g,h,i⟩:=d E
 match l,b with
 |[],b =>
  grind [D9,pZ]
 |[b1],b =>
  grind [D9,bg]
 |[b1,b2],b =>
  grind [D9,bg]
 |_::_::_::l,b=>grind
theorem SL(a:AU):D9 [] a=if Dv a=0 then 0 else if Dv a=1 then 2 else 1:=by grind [Ly,D9]
theorem q6{c:AU}(d:2<=Dv c0)(b:1<=j)(h:c.toNat<32):L1 c0 j c=AP:=by obtain⟨_,_,a,_⟩:=Ly c0;grind [L1]
def Du(bs:A1)(p k:AH):A1:=(bs.drop p).take k
theorem W9{c:AU}(h:bs[p+k]?=H c):Du bs p (k+1)=Du bs p k++[c]:=by grind [Du,List.take_add_one]
theorem SM(h:p+k<=O bs):O (Du bs p k)=k:=by grind [Du]
theorem Wa{c:AU}(h:bs[p]?=H c):Du bs p 1=[c]:=by grind [W9,Du]
theorem bj{c:AU}(h:bs[p]?=H c)(d:1<=k)(hl:p+k<=O bs):∃l,Du bs p k=c::l/\O l+1=k:=by
 have b:=Dh h;obtain⟨k,rfl⟩:∃a,k=a+1:=⟨k-1,E⟩
 grind [Du,List.drop_eq_getElem_cons]
theorem bm{l:J}(hl:Lm bs l lim)(u:(n:J)=min (O bs:J) lim)(d:bs[p]?=H c0)(acc:A1):∀(g j f:I),1<=j->j+g=Dv c0->Ct bs lim (p+j)->O bs+1<=p+j+f ->
  match Kg bs n p c0 g j with
  |(k,AP)=>k=Dv c0/\Ct bs lim (p+k)/\Dr bs lim f (p+j) (acc++Du bs p j) (if g=0 then O acc+j else O acc)=Dr bs lim (f-g) (p+k) (acc++Du bs p k) (O (acc++Du bs p k))
  |(k,AQ)=>k<=Dv c0/\Ct bs lim (p+k)/\Dr bs lim f (p+j) (acc++Du bs p j) (if g=0 then O acc+j else O acc)=.error (CU bs l (p+k) 9)
 |0,j,f,hj,hg,hi,_=>by rw[Kg];simp only[];have s:j=Dv c0:=E;subst s;refine⟨trivial,hi,?_⟩;rw[Cn trivial,Dc,SM hi.1];rfl
 |g+1,j,f,hj,hg,hi,hf=>by
  obtain⟨f,rfl⟩:∃q,f=q+1:=⟨f-1,AY hi.1⟩
  rw[Kg];by_cases o:n<=p+j
  .rw[Cn o];simp only[];refine⟨E,hi,?_⟩;rw[Ci E,Dr];rcases a:bs[p+j]? with _|c
   .simp only[];rw[It hi.1 a]
   have e:=Dh a;have i:((p+j:I):J)=lim:=AY hi.2;grind [FY]
  rw[Ci o];have e:p+j<O bs:=E;have a:=D3 e;obtain⟨c,r⟩:=IX (bs[p+j]);rw[<-r]at a;rw[a];simp only[];have i:¬((p+j:I):J)=lim:=E;obtain⟨t,v,w⟩:=bj d hj E;have m:=bh c0 t c E;have hcut:(acc++Du bs p j).drop (O acc)=c0::t:=by rw[UO,v]
  rw[<-hcut,w,show O t+2=j+1 by omega]at m;have y:O (acc++Du bs p j)=O acc+j:=B9;by_cases b:L1 c0 j c=AP
  .grind [Dr,Ht]
  rw[Ci b];rw[Ci b]at m;have x:=λh=>b (q6 E hj h);have A:=bm hl u d acc g (j+1) f E E (Ed hi a i) E;have z:Dr bs lim (f+1) (p+j) (acc++Du bs p j) (if g+1=0 then O acc+j else O acc)=Dr bs lim f (p+(j+1)) (acc++Du bs p (j+1)) (if g=0 then O acc+(j+1)else O acc):=by grind [Dr,W9]
  grind
theorem q7{l:J}(hl:Lm bs l lim)(j:(n:J)=min (O bs:J) lim)(hi:Ct bs lim p)(e:bs[p]?=H c0)(m:¬(p:J)=lim)(q:¬c0.toNat=34)(s:¬c0.toNat=92)(t:¬c0.toNat<32)(acc:A1)(u:O bs+1<=p+g):match Me bs n p c0 with
  |(k,AP)=>1<=k/\Ct bs lim (p+k)/\k<=g/\Dr bs lim g p acc (O acc)=Dr bs lim (g-k) (p+k) (acc++Du bs p k) (O (acc++Du bs p k))
  |(k,AQ)=>Ct bs lim (p+k)/\Dr bs lim g p acc (O acc)=.error (CU bs l (p+k) 9):=by
 have w:=Dh e;obtain⟨g,rfl⟩:∃i,g=i+1:=⟨g-1,E⟩
 have f:Dr bs lim (g+1) p acc (O acc)=if D9 [] c0=0 then .error (9,p)else Dr bs lim g (p+1) (acc++[c0]) (if D9 [] c0=2 then O acc+1 else O acc):=by grind [Dr]
 unfold Me;rw[SL]at f;by_cases h:Dv c0=0
 .grind [Ht]
 rw[Ci h];rw[Ci h]at f;have o:Dr bs lim (g+1) p acc (O acc)=Dr bs lim g (p+1) (acc++Du bs p 1) (if Dv c0-1=0 then O acc+1 else O acc):=by grind [Wa]
 have v:=(Ly c0).2.2.2;have d:=bm hl j e acc (Dv c0-1) 1 g (Co _) E (Ed hi e m) E;rw[<-o]at d;generalize Kg bs n p c0 (Dv c0-1) 1=r at d ⊢;obtain⟨k,b⟩:=r;cases b
 .grind
 simp only[]at d ⊢;obtain⟨a,b,c⟩:=d;have:=b.1;grind
theorem bo{l:J}(hl:Lm bs l lim)(w:(n:J)=min (min (O bs:J) lim) (p+m:I))(e:bs[p]?=H c0)(acc:A1):∀(g j:I),1<=j->j+g=Dv c0->Ct bs lim (p+j)->j<=m ->
  match Kg bs n p c0 g j with
  |(k,AP)=>k=Dv c0/\Ct bs lim (p+k)/\k<=m/\Dm bs lim (m-j) (p+j) (acc++Du bs p j) (if g=0 then O acc+j else O acc)=Dm bs lim (m-k) (p+k) (acc++Du bs p k) (O (acc++Du bs p k))
  |(k,AQ)=>Ct bs lim (p+k)/\k<=m/\Dm bs lim (m-j) (p+j) (acc++Du bs p j) (if g=0 then O acc+j else O acc)=(if k=m then .error (9,((p+k:I):J)-1)else .error (CU bs l (p+k) 9))
 |0,j,hj,hg,hi,hm=>by rw[Kg];simp only[];have v:j=Dv c0:=E;subst v;refine⟨trivial,hi,hm,?_⟩;rw[Cn trivial,Dc,SM hi.1]
 |g+1,j,hj,hg,hi,hm=>by
  have z:O (acc++Du bs p j)=O acc+j:=by rw[Dc,SM hi.1]
  rw[Kg];by_cases s:n<=p+j
  .rw[Cn s];simp only[];refine⟨hi,hm,?_⟩;rw[Ci E];by_cases d:j=m
   .rw[Cn d,show m-j=0 by omega,Dm,Ci E]
   rw[Ci d];obtain⟨f,r⟩:∃b,m-j=b+1:=⟨m-j-1,E⟩
   rw[r,Dm];rcases a:bs[p+j]? with _|c
   .simp only[];rw[It hi.1 a]
   have h:=Dh a;have i:((p+j:I):J)=lim:=AY hi.2;grind [FY]
  rw[Ci s];have h:p+j<O bs:=E;have a:=D3 h;obtain⟨c,u⟩:=IX (bs[p+j]);rw[<-u]at a;rw[a];simp only[];have i:¬((p+j:I):J)=lim:=E;have d:¬j=m:=E;obtain⟨f,r⟩:∃b,m-j=b+1:=⟨m-j-1,E⟩
  obtain⟨t,x,y⟩:=bj e hj E;have o:=bh c0 t c E;have hcut:(acc++Du bs p j).drop (O acc)=c0::t:=by rw[UO,x]
  rw[<-hcut,y,show O t+2=j+1 by omega]at o;by_cases q:L1 c0 j c=AP
  .grind [Dm,Ht]
  rw[Ci q];rw[Ci q]at o;have B:=bo hl w e acc g (j+1) E E (Ed hi a i) E;have A:Dm bs lim (m-j) (p+j) (acc++Du bs p j) (if g+1=0 then O acc+j else O acc)=Dm bs lim (m-(j+1)) (p+(j+1)) (acc++Du bs p (j+1)) (if g=0 then O acc+(j+1)else O acc):=by grind [Dm,W9]
  grind
theorem q8{l:J}(hl:Lm bs l lim)(e:(n:J)=min (min (O bs:J) lim) (p+m:I))(hi:Ct bs lim p)(a:bs[p]?=H c0)(f:¬(p:J)=lim)(i:0<m)(acc:A1):match Me bs n p c0 with
  |(k,AP)=>1<=k/\Ct bs lim (p+k)/\k<=m/\Dm bs lim m p acc (O acc)=Dm bs lim (m-k) (p+k) (acc++Du bs p k) (O (acc++Du bs p k))
  |(k,AQ)=>Ct bs lim (p+k)/\k<=m/\Dm bs lim m p acc (O acc)=(if k=m then .error (9,((p+k:I):J)-1)else .error (CU bs l (p+k) 9)):=by
 have b:Dm bs lim m p acc (O acc)=if D9 [] c0=0 then .error (9,p)else Dm bs lim (m-1) (p+1) (acc++[c0]) (if D9 [] c0=2 then O acc+1 else O acc):=by
  obtain⟨g,rfl⟩:∃d,m=d+1:=⟨m-1,E⟩
  grind [Dm]
 unfold Me;rw[SL]at b;by_cases c:Dv c0=0
 .grind [Ht]
 rw[Ci c];rw[Ci c]at b;have j:Dm bs lim m p acc (O acc)=Dm bs lim (m-1) (p+1) (acc++Du bs p 1) (if Dv c0-1=0 then O acc+1 else O acc):=by grind [Wa]
 have h:=bo hl e a acc (Dv c0-1) 1 (Co _) E (Ed hi a f) E;grind
theorem qe(c:AU):E9 c.toNat=((Hc c:J),(I0 c:J),(Dv c:J)):=by grind (splits:=20) [E9,Hc,I0,Dv]
theorem bz(p:I)(a:AU)(b:n<=O bs):∀g j,1<=j->j+g=Dv a->IN (Hc a) (I0 a) ((bs.take n).drop p) g j=Kg bs n p a g j
 |0,j,_,h=>by grind [IN,Kg]
 |g+1,j,h1,h=>by have c:=bz p a b g (j+1) E E;rw[IN,Kg,c];grind [Jp,L1]
def qf(r:AH×AK):Aq:=Af #[Ab Al r.1,Ah r.2]
theorem bB(W:X)(n:I){ch:AU}(d:bs[p]?=H ch)(hb:O bs<=281474976710656)(b:n<=O bs)(c:p<n):Ar As 163 #[Ae ⟨Aw bs⟩,C Y p,C Y n] W λe a=>e=Ak (qf (Me bs n p ch))/\a=W:=by
 have h:=Wg (s:=⟨Aw bs⟩) (w:=W) b c (Cy hb B8);have e:Hd (Fm ⟨Aw bs⟩ p n)=Me bs n p ch:=by grind [Fm,Hd,qe,Me,bz]
 rw[e]at h;exact h
theorem Tj{K:Act->X->Prop}(hi:ops[i]?=H o)(b:o.guard=Ao)(h:o.upon As a K Q ((execOp a.eval o).run As w)):wpOp As ops Q i K a w:=by unfold wpOp;rw[hi];simp only[Region.wanted,b,if_true];exact .inl h
theorem WM(h:p<a.tmps.size):(a.put (H p) y).eval (.tmp p)=y:=by simp[Act.put,Act.eval,Array.getD,h]
theorem eA(h:i≠j):(a.put (H i) u).put (H j) v=(a.put (H j) v).put (H i) u:=by grind [Act.put,Array.setIfInBounds_comm]
theorem eB(a:Act)(p:I)(y:Aq):(a.put (H p) y).tmps.size=a.tmps.size:=by simp[Act.put]
theorem eC{b:AU}(a:A6 w g 0 (C Am (b.toNat:J))):(convert 50 9 (T (Aa g) 1 1)).run As w=.ok (Ae ⟨#[b]⟩) w:=by refine Q9 _ 50 9 5 ⟨g,0,Ao⟩ 1 [b] underlying50 underlying5 underlying9 ?_;intro j c;obtain rfl:j=0:=BP;exact a
theorem Nq{oc ob ov:Oper}{args:A3}(c b v n p q:I){f:FuncId}{r:Aq}(u:AU)(ab:ops[c]?=H oc/\ops[b]?=H ob/\ops[v]?=H ov)(N:(oc.guard,oc.dst,ob.guard,ob.dst,ov.guard,ov.dst,ov.op)=(Ao,H n,Ao,H p,Ao,H q,.convert 50 9 (.tmp p)))(P:((Region.ready .any ops listed).all (λi=>i==c||i==b)&&(Region.ready .any ops (Ay listed c AP)).all (·==b)&&(Region.ready .any ops (Ay listed b AP)).all (λi=>i==c||i==v)&&(Region.ready .any ops (Ay (Ay listed c AP) b AP)).all (·==v)&&(Region.ready .any ops (Ay (Ay listed b AP) v AP)).all (·==c) && !(Region.ready .any ops listed).isEmpty && !(Region.ready .any ops (Ay listed c AP)).isEmpty && !(Region.ready .any ops (Ay listed b AP)).isEmpty && !(Region.ready .any ops (Ay (Ay listed c AP) b AP)).isEmpty && !(Region.ready .any ops (Ay (Ay listed b AP) v AP)).isEmpty&&AR (c≠b/\c≠v/\b≠v/\n≠p/\n≠q/\p≠q/\p<a.tmps.size))=AP)(A:∀y ac V,(execOp a.eval oc).run As V=.ok (.enter f args) V/\(execOp (a.put (H p) y).eval oc).run As V=.ok (.enter f args) V/\(execOp ((a.put (H p) y).put (H q) ac).eval oc).run As V=.ok (.enter f args) V)(hb:∀V,(execOp a.eval ob).run As V=.ok (.value (T (H ⟨Au (U V),0,Ao⟩) 1 1)) (Az V (M #[C Am u.toNat] 5))/\(execOp (a.put (H n) r).eval ob).run As V=.ok (.value (T (H ⟨Au (U V),0,Ao⟩) 1 1)) (Az V (M #[C Am u.toNat] 5)))(hC:∀V,Ar As f args V λe l=>e=Ak r/\A0 V l)(o:∀V,A0 w V->S V)(h:∀V y,A0 w V->wpAnyH As .any ops Q S fuel (Ay (Ay (Ay listed c AP) b AP) v AP) (((a.put (H n) r).put (H p) y).put (H q) (Ae ⟨#[u]⟩)) V):wpAnyH As .any ops Q S (fuel+3) listed a w:=by
 simp only[F3,GN,UK,UZ,UG,UE,List.isEmpty_eq_false_iff]at P;obtain⟨⟨⟨⟨⟨⟨⟨⟨⟨⟨r1,r2⟩,r3⟩,r4⟩,r5⟩,n1⟩,n2⟩,n3⟩,R⟩,n5⟩,d1,d2,d3,d4,d5,d6,d7⟩:=P;simp only[LX]at N;obtain⟨g1,g2,F,L,g5,g6,g7⟩:=N;obtain⟨o1,W,o3⟩:=ab;have x:∀{a':Act} {V:X} {K:Act->X->Prop},(execOp a'.eval oc).run As V=.ok (.enter f args) V->(∀l,A0 V l->K (a'.put (H n) r) l)->wpOp As ops Q c K a' V:=λ{a' V K} e k=>by refine Tj o1 g1 ?_;rw[e];refine(hC V).mono ?_;grind
 have aa:∀{a':Act} {V:X} {K:Act->X->Prop} {g:I},a'.eval (.tmp p)=T (H ⟨g,0,Ao⟩) 1 1->AC V ⟨g,0,Ao⟩=H (C Am (u.toNat:J))->K (a'.put (H q) (Ae ⟨#[u]⟩)) V->wpOp As ops Q v K a' V:=λ{a' V K g} e k h=>by refine Tj o3 g5 ?_;unfold execOp;simp only[g7,e,Ig,eC k];show K (a'.put ov.dst _) V;rw[g6];exact h
 have cell:∀{V l:X},Below (Au (U V)+1) (Az V (M #[C Am u.toNat] 5)) l->AC l ⟨Au (U V),0,Ao⟩=H (C Am (u.toNat:J)):=λ{V l} d=>by rw[d.cell (p:=⟨Au (U V),0,Ao⟩) Ba];simp_all
 have z:∀V:X,Au (U (Az V (M #[C Am u.toNat] 5)))=Au (U V)+1:=λV=>Ba;have B:∀V:X,A0 V (Az V (M #[C Am u.toNat] 5)):=λV=>Cl;refine P9 Z n1 λi hi=>?_;rcases r1 i hi with rfl|rfl
 .refine x (A AO AO w).1 λV d=>⟨o V d,P9 Z n2 λj m=>?_⟩
  obtain rfl:=r2 j m;refine Tj W F ?_;rw[(hb V).2];show S _/\_;rw[L];have t:=d.trans ((B V).mono d.size);refine⟨o _ t,P9 Z R λj m=>?_⟩;grind [WM,eB,Below.refl]
 refine Tj W F ?_;rw[(hb w).1];show S _/\_;rw[L];have s:=B w;refine⟨o _ s,P9 Z n3 λj m=>?_⟩;rcases r3 j m with rfl|rfl
 .refine x (A _ AO _).2.1 λV d=>?_;have t:=s.trans (d.mono (by rw[z];omega));simp only[CI,A0]at d;rw[kL _ _ d1.symm,eA d4.symm];refine⟨o _ t,P9 Z R λj m=>?_⟩;grind [WM,eB]
 refine aa (WM d7) (cell (Cq _ _)) ⟨o _ s,P9 Z n5 λj m=>?_⟩;obtain rfl:=r5 j m;refine x (A _ _ _).2.2 λV d=>?_;have t:=s.trans (d.mono (by rw[z];omega));grind [eA,Array.setIfInBounds_comm]
theorem WN(h:A0 W V)(k:Below (K (U V)) {V with drawn:=V.drawn+1} V'):A0 W V':=h.drew.trans (k.mono h.size)
theorem eD:∀(k x:I),CE x (k+1)=CE (x/256) k++[_root_.UInt8.ofNat (x%256)]
 |0,x=>by simp[CE]
 |k+1,x=>by rw[CE,eD k x,CE,Lf,Nat.div_div_eq_div_mul,show 256*2^(8*k)=2^(8*(k+1)) by rw[Nat.mul_succ,Nat.pow_add];omega]
theorem EL{m:A1}:(⟨Aw l⟩:AT)++⟨Aw m⟩=⟨Aw (l++m)⟩:=by apply ByteArray.ext;simp
theorem w8(x:J)(h:0<=x/\x<=255):IntKind.u8.wrap x=x:=Bi
theorem Hf(h:x<256):(_root_.UInt8.ofNat x).toNat=x:=Br
theorem Ou:∀(k n:I) (W:X),n<=9223372036854775807->k<=8->Ar As 125 #[C Y n,C Y k] W λe i=>e=Ak (CQ (CE n k))/\A0 W i
 |0,n,W,_,_=>by unfold CQ CE;go_enter func125,ntmps125;go_wp2;go_ret;exact⟨Z,CO⟩
 |k+1,n,W,hn,hk=>by
  have c:=λV=>Ou k (n/256) V E E;obtain⟨u,r⟩:=Dx (_root_.UInt8.ofNat (n%256));have l:(n:J).tdiv 256=((n/256:I):J):=B9;have o:(n:J).tmod 256=((n%256:I):J):=B9;have h:D (IntKind.u8.wrap ((n:J).tmod 256)=(u.toNat:J)):=by grind [D,Hf,w8]
  have g:D (IntKind.i64.wrap ((n:J).tdiv 256)=((n/256:I):J)):=by grind [D,Hu]
  have f:D (IntKind.i64.wrap (((k+1:I):J)-1)=(k:J)):=by grind [D,Hu]
  have p:(((k+1:I):J)==0)=AQ:=B7;have d:D (CE n (k+1)=CE (n/256) k++[u]):=by grind [D,eD]
  have q:¬(O (CE (n/256) k)+1>9223372036854775807):=kef;rw[AE d];generalize((k+1:I):J)=k1 at *;go_enter func125,ntmps125
  go_wp2_with fail
  refine Dl (S:=λ_=>True) trivial B6 ?_;intro a;refine Ca 0 7 (C Y n) a ?_;refine Cf 1 8 (C Y ((n/256:I):J)) Z (λb _=>?y1) a ?_
  case y1=>(go_simp;exact g)
  refine Ca 2 9 (C Y k1) a ?_;refine Cf 3 10 (C Y k) Z (λb _=>?y2) a ?_
  case y2=>(go_simp;exact f)
  refine Ca 5 12 (C Y n) a ?_;refine Cf 6 13 (C Y ((n:J).tmod 256)) Z (λb _=>?y3) a ?_
  case y3=>go_simp
  refine Cf 7 14 (C Am u.toNat) Z (λb _=>?y4) a ?_
  case y4=>(go_simp;exact h)
  refine Nq 4 8 9 11 15 16 u ⟨Z,Z,Z⟩ Z B6 (λ_ _ _=>⟨B6,B6,B6⟩) (λ_=>⟨B6,B6⟩) c (λ_ _=>trivial) (λV y j=>?_);refine Cf 10 17 (CQ (CE (n/256) k++[u])) Z (λb _=>?y5) a ?_
  case y5=>(unfold CQ;go_simp;exact EL (m:=[u]))
  refine Ca 11 4 (CQ (CE (n/256) k++[u])) a ?_;refine CG ?_;go_simp;go_wp2;go_ret;exact⟨Z,(CO (w:=W)).drew.trans j⟩
def F6(n:AH):AH:=if n<256 then 0 else if n<65536 then 1 else if n<4294967296 then 2 else 3
theorem Rb(n:I):F6 n<=3:=by grind [F6]
theorem Rd(W:X)(n:J):Ar As 123 #[C Y n] W λe f=>e=Ak (C Y ((2^F6 n.toNat:I):J))/\A0 W f:=by
 have h:(n<256/\D (F6 n.toNat=0))\/(¬n<256/\n<65536/\D (F6 n.toNat=1))\/(¬n<256/\¬n<65536/\n<4294967296/\D (F6 n.toNat=2))\/(¬n<256/\¬n<65536/\¬n<4294967296/\D (F6 n.toNat=3)):=by unfold F6 D;by_cases a:n<256<;>grind
 rcases h with⟨a,d⟩|⟨a,b,d⟩|⟨a,b,c,d⟩|⟨a,b,c,d⟩
 all_goals
  go_enter func123,ntmps123;go_wp2;go_ret;rw[AE d];exact⟨Z,CO⟩
theorem LB(h:j<=m)(a:m<=3):1<=2^j/\2^j<=8:=by rcases(show j=0\/j=1\/j=2\/j=3 by omega)with rfl|rfl|rfl|rfl<;>decide
theorem Tk(W:X)(q:m<=3):Ar As 124 #[C Y ((2^m:I):J)] W λe i=>e=Ak (C Y m)/\A0 W i:=by
 obtain⟨c,h⟩:∃c:I,D (2^m=c):=⟨_,show _=_ from rfl⟩
 rw[AE h];go_enter func124,ntmps124;go_wp2
 go_loopg[3,4] m (λg l n wr=>∃j b:I,l=C Y j/\n=C Y b/\wr=W/\D (j+g=m)/\D (b=2^j))
 case atStart=>grind [D]
 case round =>
  obtain⟨j,b,rfl,rfl,rfl,d,r⟩:=hrel;have p:j<=3:=AY (AE d);have o:b<=8:=by grind [D,LB]
  obtain _|g:=gk
  .have k:¬(b:J)<(c:J):=by grind [D]
   have f:D (j=m):=AE d;go_wp2;go_ret;rw[AE f];exact⟨Z,CO⟩
  have k:(b:J)<(c:J):=by have e:=AE d;have:=YI (a:=2) B8 (show j<m by omega);grind [D]
  go_wp2;go_roundg g
  case measure=>omega
  case rel=>exact⟨j+1,b*2,Bb,Bb,rfl,B9,by grind [D]⟩
theorem ub(hl:O bs<=999999999)(h:Ck W base v bs):Ar As 184 #[v,Ah AP] W λe f=>∃d,e=Ak d/\Ck f base d (bs++[116,114,117,101])/\Below base W f:=by
 obtain⟨q,j,m,o,p⟩:=DD Tryz.infoU8;obtain⟨a,n,c,rfl⟩:=h.2.2;have b:=G h;have l:(⟨Aw ([116,114,117,101]:A1)⟩:AT).size=4:=rfl;go_enter func184,ntmps184
 go_wp2_with(first
  |(at_builtin;refine wpList_append_own_string _ Z _ _ 50 9 Z base 5 q underlying50 underlying9 j m o p _ _ _ Z b.1 ⟨[116,114,117,101].toArray⟩ Z By keD b.2.1 ?_;intro d s k i r;have g:=G (Nb b k i)))
 go_ret;exact⟨_,Z,g⟩
theorem ud(hl:O bs<=999999999)(h:Ck W base v bs):Ar As 184 #[v,Ah AQ] W λe f=>∃d,e=Ak d/\Ck f base d (bs++[102,97,108,115,101])/\Below base W f:=by
 obtain⟨q,j,m,o,p⟩:=DD Tryz.infoU8;obtain⟨a,n,c,rfl⟩:=h.2.2;have b:=G h;have l:(⟨Aw ([102,97,108,115,101]:A1)⟩:AT).size=5:=rfl;go_enter func184,ntmps184
 go_wp2_with(first
  |(at_builtin;refine wpList_append_own_string _ Z _ _ 50 9 Z base 5 q underlying50 underlying9 j m o p _ _ _ Z b.1 ⟨[102,97,108,115,101].toArray⟩ Z By keD b.2.1 ?_;intro d s k i r;have g:=G (Nb b k i)))
 go_ret;exact⟨_,Z,g⟩
theorem ue(hl:O bs<=999999999)(h:Ck W base v bs):Ar As 150 #[v,Ah AP] W λe b=>∃d,e=Ak d/\Ck b base d (bs++[116,114,117,101])/\Below base W b:=by
 have f:=ub hl h;obtain⟨a,n,c,rfl⟩:=h.2.2;go_enter func150,ntmps150
 go_wp2_with(first
  |(go_at_call 184;refine f.mono ?_;rintro e q ⟨p,rfl,g,k⟩;obtain⟨i,j,l,o,m,rfl⟩:=g))
 go_ret;exact⟨_,Z,⟨i,j,_,_,_,Z⟩,k⟩
theorem uf(hl:O bs<=999999999)(h:Ck W base v bs):Ar As 150 #[v,Ah AQ] W λe b=>∃d,e=Ak d/\Ck b base d (bs++[102,97,108,115,101])/\Below base W b:=by
 have f:=ud hl h;obtain⟨a,n,c,rfl⟩:=h.2.2;go_enter func150,ntmps150
 go_wp2_with(first
  |(go_at_call 184;refine f.mono ?_;rintro e q ⟨p,rfl,g,k⟩;obtain⟨i,j,l,o,m,rfl⟩:=g))
 go_ret;exact⟨_,Z,⟨i,j,_,_,_,Z⟩,k⟩
theorem ug(hl:O bs<=999999999)(h:Ck W base v bs):Ar As 113 #[v,Ai 268 (Ag #[])] W λe f=>∃d,e=Ak d/\Ck f base d (bs++[110,117,108,108])/\Below base W f:=by
 obtain⟨q,j,m,o,p⟩:=DD Tryz.infoU8;obtain⟨a,n,c,rfl⟩:=h.2.2;have b:=G h;have s:=WC;have t:=WD;have u:=WE;have w:=R5;have x:=R6;have l:(⟨Aw ([110,117,108,108]:A1)⟩:AT).size=4:=rfl;go_enter func113,ntmps113
 go_wp2_with(first
  |(at_builtin;refine wpList_append_own_string _ Z _ _ 50 9 Z base 5 q underlying50 underlying9 j m o p _ _ _ Z b.1 ⟨[110,117,108,108].toArray⟩ Z By keD b.2.1 ?_;intro d y k i r;have g:=G (Nb b k i)))
 go_ret;exact⟨_,Z,g⟩
theorem uh(hl:O bs<=999999999)(h:Ck W base v bs):Ar As 113 #[v,Ai 279 (Ah AP)] W λe b=>∃d,e=Ak d/\Ck b base d (bs++[116,114,117,101])/\Below base W b:=by
 have f:=ue hl h;obtain⟨a,n,c,rfl⟩:=h.2.2;have p:=PG AP;go_enter func113,ntmps113
 go_wp2_with(first
  |(go_at_call 150;refine f.mono ?_;rintro e r ⟨q,rfl,g,k⟩;obtain⟨i,j,l,o,m,rfl⟩:=g))
 go_ret;exact⟨_,Z,⟨i,j,_,_,_,Z⟩,k⟩
theorem ui(hl:O bs<=999999999)(h:Ck W base v bs):Ar As 113 #[v,Ai 279 (Ah AQ)] W λe b=>∃d,e=Ak d/\Ck b base d (bs++[102,97,108,115,101])/\Below base W b:=by
 have f:=uf hl h;obtain⟨a,n,c,rfl⟩:=h.2.2;have p:=PG AQ;go_enter func113,ntmps113
 go_wp2_with(first
  |(go_at_call 150;refine f.mono ?_;rintro e r ⟨q,rfl,g,k⟩;obtain⟨i,j,l,o,m,rfl⟩:=g))
 go_ret;exact⟨_,Z,⟨i,j,_,_,_,Z⟩,k⟩
end
section
open Go.RowKit Go.Shelf
theorem Tn{K:Act->X->Prop}(h:Q .ret a w):Exit.then K Q .ret a w:=h
theorem WP(h:Q .ret a w):Exit.inBlock n Q .ret a w:=h
theorem uj(n:s.size=5)(b:∀i (h:i<s.size),(s[i]'h).toNat<128):Ar As 228 #[.string s,C .i32 65533] w λe k=>e=Ak (C Y (-1))/\A0 w k:=by
 have c:=G b;clear b;go_enter func228,ntmps228;go_wp2
 go_loopg[5,6] 5 (λg _ _ l=>∃i:I,i+g=5/\l=w.iter s i)
 case atStart=>grind
 case round =>
  obtain⟨i,m,rfl⟩:=hrel;obtain _|g:=gk
  .obtain rfl:i=5:=E;have j:=λa=>run_next_end (P:=As) w s 5 a E;go_wp2;go_ret;exact⟨Z,Cl⟩
  have f:i<s.size:=E;have d:=c.out i E;have j:=λa=>run_next_ascii (P:=As) w s i a f d;go_wp2;go_roundg g
  case measure=>omega
  grind
theorem ul(s:AT)(r:J)(c:128<=r)(d:¬r=65533)(a:Lib.validRune r=AQ)(w:X):Ar As 228 #[.string s,C .i32 r] w λe b=>e=Ak (C Y (-1))/\A0 w b:=by
 go_enter func228,ntmps228
 go_wp2_with(first|(go_at_call 243;refine(Tryz.utf8_ValidRune _ _).mono ?_;rintro e f ⟨rfl,rfl⟩;rw[a]))
 go_ret;exact⟨Z,Cq _ _⟩
theorem uo(z:s.size=5)(n:∀i (h:i<s.size),(s[i]'h).toNat<128){r:J}(F:128<=r)(Q:¬r=65533)(A:Lib.validRune r=AP){rs:AT}(R:Utf8.encode r=rs)(N:rs.size=k+1)(B:1<=k)(L:k<=3)(hb:128<=(rs[k]'(by omega)).toNat):Ar As 228 #[.string s,C .i32 r] w λe m=>e=Ak (C Y (-1))/\A0 w m:=by
 have t:k<s.size:=E;have f:k<rs.size:=E;have S:=n k t;have P:¬((s[k]'t).toNat:J)=((rs[k]'f).toNat:J):=E;have v:D (Lib.indexByte (s.extract (k+1) s.size).data.toList (rs[k]'f) = -1):=by
  show _=_;rw[<-Lib.firstIdx_eq];refine firstIdx_ascii s (k+1) s.size _ (λb x=>?_) hb;obtain⟨i,q,rfl⟩:=Q6 x;have y:i<s.size:=by rw[FE]at q;exact q
  exact n i y
 have o:(((rs[k]'f).toNat:J)).toNat.toUInt8=rs[k]'f:=Ba;clear n;obtain rfl|rfl|rfl:k=1\/k=2\/k=3:=E
 all_goals
  rw[z]at v;go_enter func228,ntmps228
  go_wp2_with(first|(go_at_call 243;refine(Tryz.utf8_ValidRune _ _).mono ?_;rintro e p ⟨rfl,rfl⟩;rw[A]))
  go_step3;go_wp2
 .have u:Lib.indexByte (List.take 3 (List.drop 2 s.data.toList)) (rs[1]'f)<0:=by grind [D,ByteArray.data_extract,Array.toList_extract]
  go_loopg[9,10,11,12] 1 (λg a b c d l=>a=C Y 1/\l=p)
  case atStart=>exact⟨rfl,rfl⟩
  case round =>
   obtain⟨rfl,rfl⟩:=hrel;go_wp2;go_step3;go_wp2
   go_region
   go_wp2
   go_region_with(first|(go_at_call 242;refine(Tryz.strings_IndexByte _ _ _).mono ?_;rintro e m ⟨rfl,j⟩;rw[j,o]))
   go_wp2
   all_goals repeat(first|refine Tn ?_|refine WP ?_|refine M7 ?_)
   all_goals go_ret
   all_goals exact⟨rfl,(Cq _ _).drew.drew⟩
 .have u:Lib.indexByte (List.take 2 (List.drop 3 s.data.toList)) (rs[2]'f)<0:=by grind [D,ByteArray.data_extract,Array.toList_extract]
  go_loopg[9,10,11,12] 1 (λg a b c d l=>a=C Y 2/\l=p)
  case atStart=>exact⟨rfl,rfl⟩
  case round =>
   obtain⟨rfl,rfl⟩:=hrel;go_wp2;go_step3;go_wp2
   go_region
   go_wp2
   go_region_with(first|(go_at_call 242;refine(Tryz.strings_IndexByte _ _ _).mono ?_;rintro e m ⟨rfl,j⟩;rw[j,o]))
   go_wp2
   all_goals repeat(first|refine Tn ?_|refine WP ?_|refine M7 ?_)
   all_goals go_ret
   all_goals exact⟨rfl,(Cq _ _).drew.drew⟩
 have u:Lib.indexByte (List.take 1 (List.drop 4 s.data.toList)) (rs[3]'f)<0:=by grind [D,ByteArray.data_extract,Array.toList_extract]
 go_loopg[9,10,11,12] 1 (λg a b c d l=>a=C Y 3/\l=p)
 case atStart=>exact⟨rfl,rfl⟩
 case round =>
  obtain⟨rfl,rfl⟩:=hrel;go_wp2;go_step3;go_wp2
  go_region
  go_wp2
  go_region_with(first|(go_at_call 242;refine(Tryz.strings_IndexByte _ _ _).mono ?_;rintro e m ⟨rfl,j⟩;rw[j,o]))
  go_wp2
  all_goals repeat(first|refine Tn ?_|refine WP ?_|refine M7 ?_)
  all_goals go_ret
  all_goals exact⟨rfl,(Cq _ _).drew.drew⟩
def Ov(r:AI):AK:=r==42||(r==91||(r==93||(r==47||r==46)))
theorem ur:∀k:I,k<128->AR (0<=Lib.indexByte [42,91,93,47,46] k.toUInt8)=Ov (k:J):=B8
theorem eM:∀i (h:i<(⟨#[42,91,93,47,46]⟩:AT).size),((⟨#[42,91,93,47,46]⟩:AT)[i]'h).toNat<128:=B8
theorem us(r:J)(g:0<=r)(w:X):Ar As 215 #[Ae ⟨#[42,91,93,47,46]⟩,C .i32 r] w λe a=>e=Ak (Ah (Ov r))/\A0 w a:=by
 by_cases h:r<128
 .refine(Tryz.strings_ContainsRune_ascii _ r w g h).mono ?_;grind [Below.refl,ur]
 have c:Ov r=AQ:=by grind [Ov]
 have f:Ar As 228 #[Ae ⟨#[42,91,93,47,46]⟩,C .i32 r] w λe a=>e=Ak (C Y (-1))/\A0 w a:=by
  by_cases b:r=65533
  .subst b;exact uj Z eM
  cases d:Lib.validRune r
  .grind [ul]
  obtain⟨k,l,j⟩:=encode_facts r (by rw[validRune_eq];exact d) E;exact uo Z eM E b d Z E E E (j E)
 rw[c];clear c h;generalize(⟨#[42,91,93,47,46]⟩:AT)=s at *;go_enter func215,ntmps215
 go_wp2_with(first|(go_at_call 228;refine f.mono ?_;rintro e m ⟨rfl,i⟩))
 go_ret;exact⟨Z,i⟩
theorem eR(b:AN)(a:W.heap[N]?=H (.stringIter s pos))(h:pos<s.size):(Instr.next (A8 N) AP b).run P W =
   .ok (Af #[Ah AP,C Y pos,C .i32 (Utf8.decode s pos).1]) (W.putObj N (.stringIter s (pos+(Utf8.decode s pos).2))):=by
 simp only[Instr.next,getObj,setObj,Ig,Sem.run,a,Result.andThen,h,if_true,World.putObj];simp[goInt]
theorem eS(b:AN)(a:W.heap[N]?=H (.stringIter s pos))(h:¬pos<s.size):(Instr.next (A8 N) AP b).run P W=.ok (Af #[Ah AQ]) W:=by simp[Instr.next,getObj,Sem.run,a,h]
theorem PI{B:I}{a:X}(h:Below B a w)(b:B<=g){o:Obj}:Below B a (w.putObj g o) :=
 h.trans ⟨rfl,rfl,rfl,by simp[World.putObj],λk c=>World.putObj_heap_other E⟩
structure Mm(w:World)(N:Nat)(s:ByteArray)(i:Nat)(W:World):Prop where
 below:A0 w W
 it:W.heap[N]?=some (.stringIter s i)
theorem Mm.step(h:Mm w N s i W)(hb:A0 W W'):Mm w N s i W' :=
 ⟨h.below.trans (hb.mono h.below.size),(hb.block _ (Cc h.it)).trans h.it⟩
theorem Mm.next(h:Mm w N s i W)(a:K (U w)<=N)(j:I):Mm w N s j (W.putObj N (.stringIter s j)) :=
 ⟨PI h.below a,World.putObj_heap_same (Cc h.it)⟩
theorem uE(r:I):Ns r=(AR ((r:J)<=32)||Ov (r:J)):=by grind [Ns,Ov]
theorem uF(hs:s.size<=2000)(hg:Jg w):Ar As 199 #[.string s] w λe y=>e=Ak (Ah (FN s.data.toList))/\A0 w y:=by
 have hl:O s.data.toList=s.size:=FE;have l:Ar As 214 #[.string s] w λe y=>e=Ak (Ah (Lib.validD s.data.toList))/\A0 w y :=
  Any.utf8_ValidString Tryz.lays196 s w E hg.tabs
 cases L:Lib.validD s.data.toList
 .have f:D (FN s.data.toList=AQ):=by grind [D,eQ]
  rw[L]at l;go_enter func199,ntmps199
  go_wp2_with(first|(go_at_call 214;refine l.mono ?_;rintro e d ⟨rfl,c⟩))
  go_ret;exact⟨by rw[AE f];rfl,c⟩
 obtain⟨A,Q⟩:=CA (Kn (O s.data.toList) s.data.toList);have f:D (FN s.data.toList=To A):=by grind [D,eQ]
 rw[L]at l;go_enter func199,ntmps199
 go_wp2_with(first|(go_at_call 214;refine l.mono ?_;rintro e d ⟨rfl,c⟩))
 have b:D (Mm w (K (U d)) s 0 (d.iter s 0)):=⟨c.alloc c.size _,World.iter_heap _ _ _⟩
 have hN:=c.size;generalize d.iter s 0=W0 at *;generalize K (U d)=N at *
 go_loopg[3,5] s.size (λg ac _ wr=>∃n i:I,ac=C Y n/\D (n<=i)/\D (i<=s.size)/\D (s.size<=i+g)/\D (Mm w N s i wr)/\D (A=(Kn g (s.data.toList.drop i)).map (·+n)))
 case atStart =>
  refine⟨0,0,Z,Co _,En _,Bp,b,?_⟩;show _=_;rw[<-AE Q,hl,List.drop_zero];simp_all
 case round =>
  obtain⟨n,i,rfl,ah,ab,aa,b,S⟩:=hrel;by_cases h1:i=s.size
  .have z:D (FN s.data.toList=AR (1<=n/\n<=16)):=by
    show _=_;have t:A=H n:=by grind [D,Kn]
    rw[AE f,t];rfl
   have F:=λv=>eS (P:=As) v b.it E;by_cases ha:(1:J)<=n
   .by_cases hb:(n:J)<=16
    .have a:D (FN s.data.toList=AP):=B9;go_wp2;go_ret;exact⟨by rw[AE a];rfl,b.below⟩
    have a:D (FN s.data.toList=AQ):=by grind [D]
    go_wp2;go_ret;exact⟨by rw[AE a];rfl,b.below⟩
   have a:D (FN s.data.toList=AQ):=by grind [D]
   go_wp2;go_ret;exact⟨by rw[AE a];rfl,b.below⟩
  have hn:i<s.size:=AY (AE ab);obtain⟨g,rfl⟩:∃g,gk=g+1:=⟨gk-1,AY (AE aa)⟩
  have F:=λv=>eR (P:=As) v b.it hn;obtain⟨r,hr⟩:=Dx ((Utf8.decode s i).1);obtain⟨k,hk⟩:=Dx ((Utf8.decode s i).2);rw[hr,hk]at F;have HD:D (s.data.toList.drop i=s[i]::s.data.toList.drop (i+1)):=kew;have ad:=Lib.decodeL_drop s i;have R:D (Kn (g+1) (s.data.toList.drop i)=if Ns r=AP then Ao else(Kn g (s.data.toList.drop (i+k))).map (·+1)):=by grind [D,Kn,List.drop_drop]
  have ae:1<=k:=by grind [Lib.decodeL_width]
  have af:k<=s.size-i:=by grind [Lib.decodeL_le]
  have B:D (Ns r=AP->FN s.data.toList=AQ):=λh=>by
   have t:A=Ao:=by grind [D]
   rw[AE f,t];rfl
  have W:D (Ns r=AQ->A=(Kn g (s.data.toList.drop (i+k))).map (·+(n+1))):=λh=>by rw[AE S,AE R,Ci (by rw[h];simp),Option.map_map];congr 1;grind
  have p:D (Mm w N s (i+k) (wr.putObj N (.stringIter s (i+k)))):=b.next hN _
  have ag:n<=2000:=by grind [D]
  have o:=uE r;generalize wr.putObj N (.stringIter s (i+k))=W2 at *;by_cases x:(r:J)<=32
  .have z:=B.out B9;have a:=G z;go_wp2;go_ret;exact⟨by rw[AE a];rfl,p.below⟩
  have j:=us (r:J) E W2;rw[Fv x,Bool.false_or]at o;cases m:Ov (r:J)
  .have V:=G (W (by rw[o,m]));rw[m]at j
   go_wp2_with(first|(go_at_call 215;refine j.mono ?_;rintro e w3 ⟨rfl,u⟩;have q:=G (p.step u)))
   go_roundg g
   case measure=>omega
   case rel =>
    refine⟨n+1,i+k,Bb,?_,?_,?_,q,V⟩
    all_goals grind [D]
  have a:=G (B (by rw[o,m]));rw[m]at j
  go_wp2_with(first|(go_at_call 215;refine j.mono ?_;rintro e w3 ⟨rfl,u⟩;have q:=G (p.step u)))
  go_ret;exact⟨by rw[AE a];rfl,q.below⟩
end
section
open Go.RowKit Go.Lib
def Dd{α:Type}(T:α->A1):AJ α->A1
 |[]=>[]
 |d::ds=>T d++ds.flatMap λe=>44::T e
theorem Rj{α:Type}(T:α->A1){l:AJ α}{d:α}(a:l[0]?=H d):Dd T (l.take 1)=T d:=by cases l<;>grind [Dd]
theorem Rk{α:Type}(T:α->A1){l:AJ α}(c:0<k){d:α}(b:l[k]?=H d):Dd T (l.take (k+1))=(Dd T (l.take k)++[44])++T d:=by
 obtain _|⟨a,l⟩:=l
 .simp at b
 cases k<;>grind [Dd,List.take_add_one]
theorem Rl{α:Type}(T:α->A1)(l:AJ α)(k:I):O (Dd T (l.take k))<=O (Dd T l):=by
 obtain _|⟨a,l⟩:=l
 .simp
 cases k<;>grind [Dd,List.take_append_drop]
def X5(W:Ap)(base:AH)(x:Aq)(ys:A1):Prop:=∀(V:Ap) (v:Aq) (bs:A1),Below base W V->Ck V base v bs->At bs+At ys<=999999999->Ar As 113 #[v,x] V λe W'=>∃v',e=Ak v'/\Ck W' base v' (bs++ys)/\Below base V W'
end
section
open Go.RowKit Go.Shelf
section
attribute[local go_sem] Oper.semAt_some
structure Tr(N k:Nat)(W W':World):Prop where
 below:Below N W W'
 keep:KeepsOthers W W'
 mid:GG k (k+3) W W'
theorem Tr.refl(N k:I)(W:X):Tr N k W W:=⟨Cq _ _,KeepsOthers.refl _,GG.refl _ _ _⟩
theorem Tr.trans{A C:X}(h:Tr N k A B)(g:Tr N k B C):Tr N k A C:=⟨h.below.trans g.below,h.keep.trans g.keep,h.mid.trans g.mid⟩
theorem Tr.alloc(N k:I)(W:X)(o:Obj)(a:N<=K (U W))(b:k+3<=K (U W)):Tr N k W (Az W o) :=
 ⟨(Cq _ _).alloc a _,KeepsOthers.alloc _ _,⟨Ba,λi _ h=>Cx _ _ _ E⟩⟩
theorem Tr.set(N k:I)(W:X)(p:I)(v:Aq)(c:N<=p)(e:p<k\/k+3<=p):Tr N k W (AB W ⟨p,0,Ao⟩ v) :=
 ⟨(Cq _ _).trans ⟨rfl,rfl,rfl,Bd,λi d=>CY W _ _ _ B7⟩,KeepsOthers.setCell _ _ _,⟨Bd,λi a b=>CY W _ _ _ B7⟩⟩
theorem Tr.below'(h:A0 W W')(b:N<=K (U W))(d:k+3<=K (U W)):Tr N k W W' :=
 ⟨h.mono b,⟨h.size,λi o a _=>(h.block i (Cc a)).trans a⟩,⟨h.size,λi _ c=>h.block i E⟩⟩
theorem Tr.grown(l:W.ownsRow base e size v n xs)(a:W.grownBy W' (Ax v))(hb:base<=K (U W))(t:N<=base)(w:k+3<=base):Tr N k W W':=by
 have key:∀g,Ax v=H g->base<=g:=λg h=>by
  rcases l.2 with⟨b,_⟩|⟨q,m,p,rfl,c,_⟩
  .subst b;cases h
  cases h;exact c
 refine⟨⟨a.os,a.tape,a.output,a.size,λi u=>a.block i E (λh=>B9)⟩,KeepsOthers.of_grownBy a (λj o d f=>?_),⟨a.size,λi _ s=>a.block i E (λh=>B9)⟩⟩;rcases l.2 with⟨b,_⟩|⟨q,m,p,rfl,c,r,_⟩
 .subst b;cases d
 cases d;rw[r]at f;cases f;rfl
structure Rt(w:World)(pre:List DP)(c:Code)(W:World):Prop where
 ret:c=.ret
 below:A0 w W
 r0:Boxed W w.heap.size 247 (.slice none 0 0)
 r1:Boxed W (w.heap.size+1) 4 (.bool false)
 bad:8<pre.length\/pre.all (λx=>Gl (CF x))=false
 size:w.heap.size+6<=W.heap.size
theorem Rt.own{c:Code}(h:Rt w pre c W)(a:W.grownBy W' (H row))(b:K (U w)+2<=row):Rt w pre c W' :=
 ⟨h.ret,h.below.trans ⟨a.os,a.tape,a.output,a.size,λi d=>a.block i Bm BA⟩,h.r0.kept a BA,h.r1.kept a BA,h.bad,Cy h.size a.size⟩
theorem gH(w:X):Tr (K (U w)) (K (U w)+3) W (AB (AB W ⟨K (U w),0,Ao⟩ (T Ao 0 0)) ⟨K (U w)+1,0,Ao⟩ (Ah AQ)) :=
 (Tr.set _ _ W (K (U w)) _ (Co _) E).trans (Tr.set _ _ _ (K (U w)+1) _ E E)
def J7:AH->A1
 |0=>[42]
 |1=>[42,42]
 |_=>[91,93]
theorem Tryz.infoSeg:(prog.info? 254).map (λi=>(i.zero,i.size,i.bytes))=H (H (Ag #[C Y 0,.string ByteArray.empty]),2,24):=B6
theorem wD(a:(Az (Az (Az (Az (Az (Az w (M #[T Ao 0 0] 247)) (M #[Ah AQ] 4)) (M #[T Ao 0 0] 247)) (M #[.string s] 9)) (M #[Ae ⟨#[47]⟩] 9)) (M #[C Y 0] 3))=W0):L7 (K (U w)+3) 47 W0 s:=by
 subst a;generalize hA:Az (Az (Az w (M #[T Ao 0 0] 247)) (M #[Ah AQ] 4)) (M #[T Ao 0 0] 247)=A;have b:K (U w)+3=K (U A):=by rw[<-hA];simp
 rw[b];refine⟨?_,?_,?_⟩<;>grind [Below.heap_alloc,Cj,World.size_alloc]
theorem Xm{x:DP}(h:(x.1.toList==J7 i)=AP):Gl (CF x)=AP:=by
 have e:CF x=J7 i:=BW;rw[e];unfold Gl
 match i with
 |0=>simp[J7]
 |1=>simp[J7]
 |_+2=>simp[J7]
theorem wE{x:DP}(h:∀i,i<3->(x.1.toList==J7 i)=AQ):Gl (CF x)=FN x.1.data.toList:=by have e:CF x=x.1.toList:=BW;have a:=h 0 E;have b:=h 1 E;have c:=h 2 E;grind [J7,Gl,Lib.toList_data]
theorem TG{o:Obj}{cs:A3}:∀(j:I) (u:Aq),cs.toList[j]?=H u->(Az (Az w o) (M cs t)).cell? ((⟨K (U w)+1,0,Ao⟩:Addr).add j)=H u:=λj u a=>by grind [cell_of_row,Cj,World.size_alloc,KP]
theorem wF{hs:s.size<=2000}{xs:AJ DP}(d:(s.toList==[46])=AQ)(h:xs.map CF=D0 47 (CF ⟨s,hs⟩))(b:O xs<=8)(c:xs.all (λx=>Gl (CF x))=AP):EY s.data.toList=AP:=by have a:D0 47 s.data.toList=xs.map CF:=h.symm;unfold EY;rw[a,<-RQ,d,LW,F4 b,List.all_map];simpa[Function.comp]using c
theorem wG{hs:s.size<=2000}{r:AJ A1}(a:(s.toList==[46])=AQ)(h:D0 47 (CF ⟨s,hs⟩)=pre.map CF++r)(hb:8<O pre\/pre.all (λx=>Gl (CF x))=AQ):EY s.data.toList=AQ:=by grind [CF,EY,Lib.toList_data]
theorem wH(V:X):(Instr.index 326 (Ag #[Ae ⟨#[42]⟩,C Y 0,Ae ⟨#[42,42]⟩,C Y 1,Ae ⟨#[91,93]⟩,C Y 2]) (C Y 0)).run As V=.ok (Ag #[Ae ⟨#[42]⟩,C Y 0]) V:=B6
theorem wI(V:X):(Instr.index 326 (Ag #[Ae ⟨#[42]⟩,C Y 0,Ae ⟨#[42,42]⟩,C Y 1,Ae ⟨#[91,93]⟩,C Y 2]) (C Y 1)).run As V=.ok (Ag #[Ae ⟨#[42,42]⟩,C Y 1]) V:=B6
theorem wJ(V:X):(Instr.index 326 (Ag #[Ae ⟨#[42]⟩,C Y 0,Ae ⟨#[42,42]⟩,C Y 1,Ae ⟨#[91,93]⟩,C Y 2]) (C Y 2)).run As V=.ok (Ag #[Ae ⟨#[91,93]⟩,C Y 2]) V:=B6
theorem wK(L:Array AK)(b:I)(c:X->AJ (I×Aq))(T:X->Prop)(d:X->X)(e:(∀V,T V->wpAnyIn F n P md ops Q b L ((c V).foldl (λa p=>a.put (H p.1) p.2) a) (d V))->wpAnyIn F n P md ops Q fuel listed a w)(f:∀V,T V->wpAnyIn F n P md ops Q b L ((c V).foldl (λa p=>a.put (H p.1) p.2) a) (d V)):wpAnyIn F n P md ops Q fuel listed a w:=e f
theorem wL{nF:I}{K:Act->X->Prop}{s x:Operand}(f:o.op=.call {callee:=.builtin .append,args:=#[s,x],argTypes:=#[t,t]}){i:TypeInfo}(V:P.underlying t=H (.slice e))(hi:P.info? e=H i)(W:i.zero=H z)(R:i.size=size)(r:i.bytes=bytes)(aa:z.cells.size=size)(S:0<size)(N:a.eval s=v)(B:w.ownsRow base e size v n xs){ad:Addr}(m c:I)(hx:a.eval x=T (H ad) m c)(hl:O news=m*size)(A:∀j u,news[j]?=H u->AC w (ad.add j)=H u)(g:∀u∈news,u.oneCell'=AP)(p:n+m<=maxLen)(y:(n+m)*bytes<=140737488355328)(q:base<=Au (U w))(h:∀d b,b.ownsRow base e size d (n+m) (xs++news)->w.grownBy b (Ax v)->K (a.put o.dst d) b):o.wpIn F nF P a w K Q:=by obtain⟨d,b,L,k,l,_⟩:=Qk (P:=P) w base t o.type e i z size bytes V hi W R r aa S v n xs B ad m c news hl A g p y q;unfold Oper.wpIn;refine⟨by simp[Oper.about,f,resolve,Target.leads,Ga],?_⟩;rw[Oper.semAt_plain F _ _ B9];simp[execOp,f,resolve,invoke,builtin,N,hx,L,Result.andThen];exact h d b k l
end
end
section
open Go.RowKit
def Ev(Y:AH->AH)(x:AI×AI):A3:=Cw Y++#[Ab Al x.1,Ab Al x.2]
theorem Kp{c:Prop}[Decidable c]{A B:Prop}(h:c)(a:A):if c then A else B:=by rw[Cn h];exact a
theorem wM(a:I->I)(x:J×J)(V:X):(Instr.buildSlice 185 1 #[(0,.agg (Ev a x))]).run As V=.ok (T (Aa (K (U V))) 1 1) (Az V (M (Ev a x) 203)):=B6
theorem gI{K:Act->X->Prop}(x:Operand)(c:o.op=.buildSlice 185 1 #[(0,x)])(b:I->I)(z:J×J)(hx:a.eval x=.agg (Ev b z))(h:K (a.put o.dst (T (Aa (Au (U w))) 1 1)) (Az w (M (Ev b z) 203))):o.wp As a w K Q:=by
 have e:(#[(0,x)].map λ(i,y)=>(i,a.eval y))=#[((0:I),Value.agg (Ev b z))]:=by simp[hx]
 unfold Oper.wp execOp;simp only[c,Ig,e,wM,FT];exact h
theorem gJ{K:Act->X->Prop}(s x:Operand)(B:o.op=.call {callee:=.builtin .append,args:=#[s,x],argTypes:=#[t,t]}){i:TypeInfo}(V:P.underlying t=H (.slice e))(hi:P.info? e=H i)(W:i.zero=H z)(R:i.size=size)(r:i.bytes=bytes)(aa:z.cells.size=size)(S:0<size)(N:a.eval s=v)(F:w.ownsRow base e size v n xs){ad:Addr}(m c:I)(hx:a.eval x=T (H ad) m c)(hl:O news=m*size)(A:∀j u,news[j]?=H u->AC w (ad.add j)=H u)(f:∀u∈news,u.oneCell'=AP)(p:n+m<=maxLen)(y:(n+m)*bytes<=140737488355328)(q:base<=Au (U w))(h:∀b d,d.ownsRow base e size b (n+m) (xs++news)->w.grownBy d (Ax v)->(Ax b=Ax v\/Ax b=H (Au (U w)))->K (a.put o.dst b) d):o.wp P a w K Q:=by obtain⟨b,d,L,g,k,_,l⟩:=YV (P:=P) w base t o.type e i z size bytes V hi W R r aa S v n xs F ad m c news hl A f p y q;unfold Oper.wp execOp;simp only[B,resolve,invoke,builtin,Ig,Ga,FT,NW,GO,Lh,N,hx,L];exact h b d g k l
theorem Ru(b:W.ownsRow base e size v n xs)(h:Ax v=H g):g<K (U W):=by rcases b.2 with⟨a,_⟩|⟨f,c,d,a,_,i,_⟩<;>grind [Value.ownBlock]
theorem Tryz.infoSt:(prog.info? 203).map (λi=>(i.zero,i.size,i.bytes))=H (H (.agg (Ev DT (0,0))),18,48):=B6
theorem gK{Y:I->I}{x:J×J}:∀u∈(Ev Y x).toList,u.oneCell'=AP:=by intro u a;simp[Ev,Cw]at a;rcases a with⟨i,_,rfl⟩|rfl|rfl<;>rfl
theorem DB.next(h:DB W0 A q sts sv nf mn mf W)(hb:A0 W W'):DB W0 A q sts sv nf mn mf W':=by
 have a:W.grownBy W' Ao:=⟨hb.os,hb.tape,hb.output,hb.size,λi b _=>hb.block i b⟩
 obtain⟨d,c,e⟩:=h.takes;exact{h with
  row:=(hb.block _ (Cc h.row)).trans h.row
  below:=h.below.trans (hb.mono h.below.size)
  letters:=h.letters.kept a Ba
  takes:=⟨d,(hb.block _ (Cc c)).trans c,e⟩
  states:=gy h.states (λi b=>hb.block i b)
  numbers:=h.numbers.kept a Ba
  moves:=h.moves.kept a Ba}
theorem wN(c:AJ ((I->I)×J×J))(b:I->I)(a:J×J):(c++[(b,a)]).flatMap Nw=c.flatMap Nw++(Ev b a).toList:=by simp[Nw,Ev]
theorem wO(q:D5)(b a:Aq):Ay (Rr q b) 20 a=Rr q a:=rfl
theorem E5.cell(h:E5 W kt m n f)(A j:I)(v:Aq)(d:m≠A):E5 (AB W ⟨A,j,Ao⟩ v) kt m n f:=by obtain⟨a,b,c⟩:=h;exact⟨a,b.setCell BX v,c⟩
theorem E5.drew(h:E5 W kt m n f):E5 W.drew kt m n f:=h
theorem PQ(h:W.ownsRow base e size v n xs)(k:∀g,Ax v=H g->W'.heap[g]?=W.heap[g]?):W'.ownsRow base e size v n xs:=by
 refine⟨h.1,?_⟩;rcases h.2 with a|⟨b,c,d,a,f,j,i⟩
 .exact .inl a
 exact .inr ⟨b,c,d,a,f,(k b keF).trans j,i⟩
structure JA(A:Nat)(q:D5)(sv:Value)(W W':World):Prop where
 size:W.heap.size<=W'.heap.size
 block:∀i,i<W.heap.size->some i≠sv.ownBlock->i≠A->i≠q.nb->i≠q.mb->W'.heap[i]?=W.heap[i]?
theorem wP{W0:Ap}{X:Ap}(h:DB W0 A q sts sv nf mn mf X){Y:I->I}(W:∀ab,Y ab<512){l:Lit}(hl:keyOf As 183 (.agg (Cw Y))=H l)(hi:nf l=Ao)(ac:O sts<100000){w4:Ap}(t:w4.ownsRow (K (U W0)) 203 18 v' (O sts+1) (sts.flatMap Nw++(Ev Y (Eu q.dflt q.rs Y 0)).toList))(c:X.grownBy w4 (Ax sv))(ad:Ax v'=Ax sv\/Ax v'=H (K (U X))):∃d,(Instr.mapUpdate 179 (.map (H q.nb)) (.agg (Cw Y)) (C Al (O sts))).run As (AB w4 ⟨A,20,Ao⟩ v').drew=.ok () d/\(AB w4 ⟨A,20,Ao⟩ v').drew.grownBy d (H q.nb)/\(∀i,i<K (U X)->H i≠Ax sv->i≠A->i≠q.nb->d.heap[i]?=X.heap[i]?)/\K (U X)<=K (U d)/\∃j,DB W0 A q (sts++[(Y,Eu q.dflt q.rs Y 0)]) v' j mn mf d:=by
 obtain⟨y,B,s,F,a5,L,a7,N,a9,z⟩:=h.apart;obtain⟨u1,u2,u3,u4,u5⟩:=h.high;have nA:H A≠Ax sv:=λe=>(h.own A e.symm).1 Z;have nl:H q.lm≠Ax sv:=λe=>(h.own _ e.symm).2.1 Z;have nt:H q.tb≠Ax sv:=λe=>(h.own _ e.symm).2.2.1 Z;have nn:H q.nb≠Ax sv:=λe=>(h.own _ e.symm).2.2.2.1 Z;have nm:H q.mb≠Ax sv:=λe=>(h.own _ e.symm).2.2.2.2 Z;obtain⟨P,w,t2⟩:=h.takes;have lA:=Cc h.row;have lt:=Cc w;have ll:=h.letters.lt;have ln:=h.numbers.lt;have lm:=h.moves.lt;have V:=((h.numbers.kept c nn).cell A 20 v' s.symm).drew;obtain⟨d,hr,hf,b⟩:=gu V Xf underlying179 E hl (O sts) E;have aa:∀g,Ax v'=H g->g≠A/\g≠q.lm/\g≠q.tb/\g≠q.nb/\g≠q.mb:=B9;have n:∀i,i<K (U X)->H i≠Ax sv->i≠A->i≠q.nb->d.heap[i]?=X.heap[i]?:=by intro i h1 m R S;have s4:=CK h1 c.size;have p:(AB w4 ⟨A,20,Ao⟩ v').drew.heap.size=K (U w4):=Br;exact(b.block i (by rw[p];exact s4) (by simpa using S)).trans ((G9 w4 _ _ _ keU).trans (c.block i h1 m))
 obtain⟨j,e1,Q⟩:∃j:Lit->Option I,j l=H (O sts)/\∀a,a≠l->j a=nf a:=by have:=Classical.propDecidable;exact⟨λa=>if a=l then H (O sts)else nf a,Cn Z,λa k=>Ci k⟩
 have v:K (U X)<=K (U d):=by have:=c.size;have m:=b.size;grind [World.setCell,World.drew]
 refine⟨d,hr,b,n,v,j,?_⟩;exact{
  row:=by
   have r4:=(c.block A lA nA).trans h.row;have u:(AB w4 ⟨A,20,Ao⟩ v').drew.heap[A]?=H (M (Rr q v') 187):=by have:=DQ w4 A 20 _ _ v' r4;rw[wO]at this;exact this
   exact(b.block A (Cc u) keT).trans u
  rules:=h.rules
  few:=h.few
  below:=⟨by rw[b.os];exact c.os.trans h.below.os,by rw[b.tape];exact c.tape.trans h.below.tape,by rw[b.output];exact c.output.trans h.below.output,Cy h.below.size v,λi hi=>(n i (CK hi h.below.size) (λe=>AY (DK h.states e.symm)) E E).trans (h.below.block i hi)⟩
  letters:=(((h.letters.kept c nl).cell A 20 v' y.symm).drew).kept b keA
  takes:=⟨P,(n _ lt nt B.symm N).trans w,t2⟩
  states:=by rw[wN,Dc];refine PQ t λg e=>?_;have p:(AB w4 ⟨A,20,Ao⟩ v').drew.heap.size=K (U w4):=Br;exact(b.block g (by rw[p];exact Ru t e) B9).trans (G9 w4 _ _ _ B9)
  numbers:=Br
  moves:=(((h.moves.kept c nm).cell A 20 v' F.symm).drew).kept b (by simpa using z.symm)
  high:=h.high
  apart:=h.apart
  own:=aa
  bits:=h.bits
  here:=λi x f=>by
   by_cases o:i<O sts
   .rw[GM o]at f;exact h.here i x f
   rw[IU E]at f;obtain⟨_,rfl⟩:i-O sts=0/\(Y,Eu q.dflt q.rs Y 0)=x:=B9;exact⟨Z,W⟩
  num:=λi x f a r=>by
   by_cases o:i<O sts
   .rw[GM o]at f;have:=h.num i x f a r;grind
   grind
  num':=λa i k=>by
   by_cases e:a=l
   .simp_all
   rw[Q a e]at k;obtain⟨x,h1,m⟩:=h.num' a i k;grind}
def OE(sv sv':Aq)(W:Ap):Prop:=Ax sv'=Ax sv\/∃g,Ax sv'=An g/\Au (Go.World.heap W)<=g
theorem OE.mono{sv':Aq}(h:OE sv sv' V)(a:K (U W)<=K (U V)):OE sv sv' W:=h.imp id (λ⟨g,e,h⟩=>⟨g,e,Cy a h⟩)
theorem wQ(h:DB W0 A q sts (T sa (O sts) sc) nf mn mf W){Y:I->I}(hY:∀r,Y r<512){l:Lit}(hl:keyOf As 183 (.agg (Cw Y))=H l)(hi:nf l=Ao)(az:O sts<100000):Ar As 97 #[A8 A,.agg (Cw Y)] W λe W'=>e=Ak (C Al (O sts))/\JA A q (T sa (O sts) sc) W W'/\∃ad ae R,OE (T sa (O sts) sc) (T ad (O sts+1) ae) W/\DB W0 A q (sts++[(Y,Eu q.dflt q.rs Y 0)]) (T ad (O sts+1) ae) R mn mf W':=by
 have HB:D ((Az W (M (Cw Y) 183)).heap[K (U W)]?=H (M (Cw Y) 183)):=Cj _;have y:D (DB W0 A q sts (T sa (O sts) sc) nf mn mf (Az W (M (Cw Y) 183))):=h.next Cl
 have a5:A≠K (U W):=AY (Cc h.row);have a0:=G h.numbers.lt;have a1:D (∀g,Ax (Go.Value.slice sa (O sts) sc)=H g->g<K (U W)):=λg e=>Ru h.states e;go_enter func97,ntmps97;go_wp2;have HW:D (A0 W (Az W (M (Cw Y) 183))):=Cl;generalize Az W (M (Cw Y) 183)=V at *;refine Dl (S:=λa=>A6 a A 21 (.map (H q.nb))/\A7 a (K (U W)) (Cw Y) 183/\E5 a 183 q.nb (O sts) nf) (⟨Cb y.row 21,HB,y.numbers⟩) B6 ?_;intro b;refine Ca 0 10 (A8 A) b ?_;refine Ca 1 11 (A8 A) b ?_;refine Ca 2 12 (A9 A 21) b ?_;refine Cf 3 13 (.map (H q.nb)) Z (λa d=>?y3) b ?_
 case y3=>(have z1:=d.1;go_simp)
 refine Cf 4 14 (.agg (Cw Y)) Z (λa d=>?y4) b ?_
 case y4=>exact LG (.tmp 3) rfl rfl d.2.1 underlying183 rfl (FO Y)
 refine Cf 5 15 (Af #[C Al 0,Ah AQ]) Z (λa d=>?y5) b ?_
 case y5=>(have z2:=TA d.2.2 Xf underlying179 hl;rw[hi]at z2;go_simp)
 refine Ca 6 9 (Af #[C Al 0,Ah AQ]) b ?_;refine Ca 7 16 (C Al 0) b ?_;refine Ca 8 17 (Ah AQ) b ?_;refine Ca 9 5 (C Al 0) b ?_;refine Ca 10 6 (Ah AQ) b ?_;refine CG ?_;go_simp;have i:=G (y.next (Cq _ _).drew);have B:D ((World.drew V).heap[K (U W)]?=H (M (Cw Y) 183)):=AE HB;have aa:=G (HW.drew);generalize World.drew V=V1 at *;have al:A6 V1 A 20 (T sa (O sts) sc):=Cb i.row 20;have cJ:=vB Y (λr=>AY (hY r)) i.few.1 i.few.2 (Cc i.row) (Cb i.row 0) (Cb i.row 1) (i.rules.below i.below)
 go_wp2_with(first
  |(go_at_call 141;refine cJ.mono ?_;rintro e f ⟨rfl,Q⟩;have z:=G (i.next Q);have F:=G ((Q.block _ (Cc B)).trans B);have P:=G (aa.trans (Q.mono aa.size));have al:A6 f A 20 (T sa (O sts) sc):=Cb z.row 20)
  |(refine CT Z 183 (.tmp 3) Z (K (U W)) Z _ _ _ _ B underlying183 Z (FO Y) ?_))
 obtain⟨si,ay,au,av,aw⟩:=DD Tryz.infoSt;have a4:=Cc z.row;have o:D (DB W0 A q sts (T sa (O sts) sc) nf mn mf (f.drew.alloc (M (Ev Y (Eu q.dflt q.rs Y 0)) 203))):=(z.next (Cq _ _).drew).next Cl
 have t:(λa:X=>A7 a (K (U W)) (Cw Y) 183) (f.drew.alloc (M (Ev Y (Eu q.dflt q.rs Y 0)) 203)):=(Cx f.drew _ _ (Cc F)).trans F;have ah:D (∀(j:I) (af:Aq),(Ev Y (Eu q.dflt q.rs Y 0)).toList[j]?=H af->(f.drew.alloc (M (Ev Y (Eu q.dflt q.rs Y 0)) 203)).cell? ((⟨K (U f),0,Ao⟩:Addr).add j)=H af):=EI (w:=f.drew);refine Dl (S:=λa=>A7 a (K (U W)) (Cw Y) 183) (F) B6 ?_;intro b;refine Ca 0 31 (A8 A) b ?_;refine Ca 1 32 (A8 A) b ?_;refine Ca 2 33 (A8 A) b ?_;refine Ca 3 34 (A9 A 20) b ?_;refine Cf 5 36 (.agg (Cw Y)) Z (λa d=>?y5) b ?_
 case y5=>exact LG (.tmp 3) rfl rfl d underlying183 rfl (FO Y)
 refine Ca 6 37 (C Al (Eu q.dflt q.rs Y 0).1) b ?_;refine Ca 7 38 (C Al (Eu q.dflt q.rs Y 0).2) b ?_;refine Cf 8 39 (.agg (Ev Y (Eu q.dflt q.rs Y 0))) Z (λa d=>?y8) b ?_
 case y8=>kernel_rfl
 refine GP 4 9 (λp c=>?_) (λp c=>?_)
 focus
  go_simp;refine c.out _ _ b (λ_=>?_);refine CC 9 (λp c=>?_);refine Kp B6 ?_;refine gI (.tmp 39) Z Y (Eu q.dflt q.rs Y 0) B6 ?_;refine c.out _ _ t (λ_=>?_)
 rotate_left
 focus
  refine Kp B6 ?_;refine gI (.tmp 39) Z Y (Eu q.dflt q.rs Y 0) B6 ?_;refine c.out _ _ t (λ_=>?_);refine CC 4 (λp c=>?_);go_simp;refine c.out _ _ t (λ_=>?_)
 all_goals
  refine CC 10 (λp c=>?_);refine Kp B6 ?_;refine gJ (.tmp 35) (.tmp 40) Z underlying185 ay au av aw Z B8 B6 o.states 1 1 B6 ?hln ah (gK) Bc E o.below.size ?_
  case hln=>simp[Ev,Cw]
  intro v' k ab ar ac;obtain⟨n,m,rfl⟩:=ownsRow_succ ab;have aj:=G ab;have L:=G ar;have ak:=G ac;have ai:D (OE (T sa (O sts) sc) (T (Aa n) (O sts+1) m) W):=ac.imp id (λe=>⟨_,e,B9⟩);have an:=Cc o.row;have N:=G ((L.block A an (λe=>(o.own A e.symm).1 Z)).trans o.row);have v:=(L.block (K (U W)) (Cc t) (λe=>by grind [D])).trans t;have a2:A6 k A 20 (T sa (O sts) sc):=Cb N 20;have a3:=Dq k A 20 _ _ N;have x:(λa:X=>A7 a (K (U W)) (Cw Y) 183) (AB k ⟨A,20,Ao⟩ (T (Aa n) (O sts+1) m)):=(G9 k _ _ _ B7).trans v;refine c.out _ _ v (λ_=>?_);refine Ca 11 42 (A8 A) v ?_;refine Ca 12 43 (A9 A 20) v ?_;refine CC 13 (λp c=>?_);go_simp;refine c.out _ _ x (λ_=>?_);refine CG ?_;go_simp;obtain⟨w6,a6,aq,ap,ax,R,am⟩:=wP o hY hl hi az aj L ak;have u:=G am;have ag:D (JA A q (T sa (O sts) sc) W w6):=by have s3:K (U f)<=K (U (f.drew.alloc (M (Ev Y (Eu q.dflt q.rs Y 0)) 203))):=Br;refine⟨Cy P.size (Cy s3 ax),λj h1 h2 h3 h4 _=>?_⟩;have hj:=CK h1 P.size;exact(ap j (CK hj s3) h2 h3 h4).trans ((Cx f.drew _ _ hj).trans (P.block j h1))
  have s:(λa:X=>A6 a A 21 (.map (H q.nb))/\A7 a (K (U W)) (Cw Y) 183) { (AB k ⟨A,20,Ao⟩ (T (Aa n) (O sts+1) m))with drawn:=(AB k ⟨A,20,Ao⟩ (T (Aa n) (O sts+1) m)).drawn+1}:=⟨by have h:=DQ k A 20 _ _ (T (Aa n) (O sts+1) m) N;exact Cb h 21,x⟩
  have ao:(λa:X=>A6 a A 21 (.map (H q.nb))/\A7 a (K (U W)) (Cw Y) 183) w6:=⟨Cb u.row 21,(aq.block (K (U W)) (Cc x) (by grind [D])).trans x⟩
  generalize AB k ⟨A,20,Ao⟩ (T (Aa n) (O sts+1) m)=V5 at *;go_wp2;refine Ef (S:=λa=>A6 a A 21 (.map (H q.nb))/\A7 a (K (U W)) (Cw Y) 183) B6 ?_;refine Ca 0 44 (A8 A) s ?_;refine Ca 1 45 (A8 A) s ?_;refine Ca 2 46 (A9 A 21) s ?_;refine Cf 3 47 (.map (H q.nb)) Z (λa d=>?y3) s ?_
  case y3=>(have z1:=d.1;go_simp)
  refine Cf 4 48 (.agg (Cw Y)) Z (λa d=>?y4) s ?_
  case y4=>exact LG (.tmp 3) rfl rfl d.2 underlying183 rfl (FO Y)
  refine Ca 5 49 (C Al (O sts)) s ?_;refine CC 6 (λp c=>?_);go_simp;refine c.out _ _ ao (λ_=>?_);refine CG ?_;go_simp;go_wp2;go_ret;exact⟨Z,ag,Aa n,m,R,ai,u⟩
end
section
open Go.RowKit Go.Lib
def Mw(s b:AH):AH:=((s^^^b)*1099511628211)%18446744073709551616
theorem PR{s b:I}:Mw s b<18446744073709551616:=UX _ B8
theorem gW{a:I}(b:I)(e:a<18446744073709551616)(hb:b<18446744073709551616):bits .xor .u64 (a:J) (b:J)=((a^^^b:I):J):=by
 have h:(BitVec.ofNat 64 a^^^BitVec.ofNat 64 b).toNat=a^^^b:=by rw[BitVec.toNat_xor,NT,NT,LU E,LU E]
 have c:BitVec.ofInt 64 (a:J)=BitVec.ofNat 64 a:=NO ..;have d:BitVec.ofInt 64 (b:J)=BitVec.ofNat 64 b:=NO ..;show IntKind.u64.wrap ((BitVec.ofInt 64 (a:J)^^^BitVec.ofInt 64 (b:J)).toNat:J)=_;have f:a^^^b<2^64:=Nat.xor_lt_two_pow E E;rw[c,d,h];unfold IntKind.wrap;simp[IntKind.bits,IntKind.signed];omega
theorem gX(x:I):IntKind.u64.wrap ((x:J)*1099511628211)=(((x*1099511628211)%18446744073709551616:I):J):=by unfold IntKind.wrap;simp[IntKind.bits,IntKind.signed]
theorem Xt{s b:I}(c:s<18446744073709551616)(hb:b<256)(W:X):Ar As 204 #[C .u64 s,C Am b] W λe a=>e=Ak (C .u64 (Mw s b))/\a=W:=by have d:=gW b c E;go_enter func204,ntmps204;go_wp2;rw[gX];go_ret;exact⟨Z,Z⟩
end
section
open Go.RowKit
def xI(W0:Ap)(A:AH)(q:D5)(sts:AJ ((AH->AH)×AI×AI))(sv:Aq)(mn:AH)(mf:Lit->Option AH)(Y:AH->AH)(W:Ap)(e:Ending)(W':Ap):Prop :=
 ∃(i:AH) (sts':AJ ((AH->AH)×AI×AI)) (sa':A4) (sc':AH) (nf':Lit->Option AH),e=Ak (Ab Al i)/\JA A q sv W W'/\OE sv (Ac sa' (At sts') sc') W/\DB W0 A q sts' (Ac sa' (At sts') sc') nf' mn mf W'/\(∀(j:AH) (x:(AH->AH)×AI×AI),sts[j]?=An x->sts'[j]?=An x)/\At sts'<=At sts+1/\∃x,sts'[i]?=An x/\∀r,r<16->x.1 r=Y r
theorem gZ{W0:Ap}{W:Ap}(h:DB W0 A q sts (T sa (O sts) sc) nf mn mf W){Y:I->I}(c:∀r,Y r<512)(m:O sts<100000):Ar As 97 #[A8 A,.agg (Cw Y)] W (xI W0 A q sts (T sa (O sts) sc) mn mf Y W):=by
 obtain⟨l,b⟩:=Xb (X:=Y) (λr=>AY (c r));rcases hi:nf l with _|i
 .refine(wQ h c b hi m).mono ?_;rintro e f ⟨rfl,hF,p,s,o,u,t⟩;refine⟨O sts,sts++[(Y,Eu q.dflt q.rs Y 0)],p,s,o,Z,hF,?_,?_,λj x d=>?_,?_,(Y,Eu q.dflt q.rs Y 0),Ba,λ_ _=>rfl⟩<;>grind
 refine(vX h b hi).mono ?_;rintro e f ⟨rfl,a⟩;obtain⟨x,n,k⟩:=h.num' l i hi;exact⟨i,sts,sa,sc,nf,rfl,⟨a.size,λj d _ _ _ _=>a.block j d⟩,.inl rfl,h.next a,λ_ _ g=>g,Qm _,x,n,fZ (Value.agg.inj (Xa.inj k b))⟩
theorem hH(c:AU):∀l:A1,(Lib.index l [c] = -1/\D0 c l=[l])\/∃a r,l=a++c::r/\Lib.index l [c]=O a/\D0 c l=a::D0 c r
 |[]=>Pa ⟨rfl,rfl⟩
 |x::r=>by
  by_cases e:x=c
  .grind [Lib.index,D0]
  have h:([c].isPrefixOf (x::r))=AQ:=B9;have g:(x==c)=AQ:=by simp[e]
  rcases hH c r with⟨b,d⟩|⟨a,q,b,d,f⟩<;>grind [Lib.index,D0]
theorem My(c:AU)(l:A1):(Lib.cut l [c]=(l,[],AQ)/\D0 c l=[l])\/∃a r,Lib.cut l [c]=(a,r,AP)/\l=a++c::r/\D0 c l=a::D0 c r:=by
 rcases hH c l with⟨b,d⟩|⟨a,r,b,d,e⟩
 .grind [Lib.cut]
 right;refine⟨a,r,?_,b,e⟩;unfold Lib.cut;simp_all
def TM(n:AH)(l:A1):AK :=
 EY (Lib.cut l [32]).1&&(Iv (Lib.cut (Lib.cut l [32]).2.1 [32]).1 n&&ET ⟨(Lib.cut (Lib.cut l [32]).2.1 [32]).2.1.toArray⟩ != 0)
theorem Xv(l:A1):ET ⟨Aw l⟩=if l==[100,114,111,112]then 1 else if l==[109,97,115,107]then 2 else if l==[116,97,103]then 3 else 0:=by unfold ET;rw[RQ]
theorem i4(a r:A1):ET ⟨Aw (a++32::r)⟩=0:=by have b:(32:AU)∈a++32::r:=Ba;grind [Xv]
theorem i5(n:I)(l:A1):TM n l=De n l:=by
 unfold TM De;rcases My 32 l with⟨f,g⟩|⟨a,r,f,_,g⟩
 .rw[f,g];rcases My 32 []with⟨c,h⟩|⟨a,r,_,c,_⟩
  .simp[c,Iv,Ny]
  simp at c
 rw[f,g];rcases My 32 r with⟨c,h⟩|⟨b,q,c,_,h⟩
 .grind [ET,Xv,Ny]
 rw[c,h];rcases My 32 q with⟨j,i⟩|⟨d,e,j,i,k⟩
 .rw[i];rfl
 grind [gx,List.length_pos_iff,Xh,List.length_cons,i4]
theorem Mz:Maps.Keyed As 9:=Qh underlying9
theorem i6(hb:O l<=maxLen):keyOf As 9 (Ae ⟨Aw l⟩)=H (.string l):=by
 have a:(⟨Aw l⟩:AT).size<=maxLen:=by show(Aw l).size<=maxLen;omega
 simp[keyOf,mapKey,underlying9,a]
def Ks(lf:Lit->Option AH)(key:A1)(ix:AK):AH:=if ix=AP then 1 else(lf (.string key)).getD 0
theorem i7(h:DB W0 A q sts sv nf mn mf W)(c:AK)(hb:O key<=maxLen):Ar As 103 #[A8 A,Ag #[Ae ⟨Aw key⟩,Ah c]] W λe k=>e=Ak (C Y (Ks q.lf key c))/\A0 W k:=by
 have l:=Cc h.row;have c2:A6 W A 2 (.map (H q.lm)):=Cb h.row 2;have f:D (E5 (Az W (M #[Ae ⟨Aw key⟩,Ah c] 146)) 9 q.lm q.ln q.lf):=h.letters.kept (KB W _ Ao) Ba;have n:=Rq f Mz underlying178 (i6 hb);cases c
 .obtain⟨x,g⟩:=IX ((q.lf (.string key)).getD 0);have j:D (Ks q.lf key AQ=x):=by rw[g];rfl
  have i:=G g.symm;rw[AE j];go_enter func103,ntmps103;go_wp2;have b:(λa:X=>A6 a A 2 (.map (H q.lm))/\A6 a (K (U W)) 0 (Ae ⟨Aw key⟩)/\E5 a 9 q.lm q.ln q.lf) { (Az W (M #[Ae ⟨Aw key⟩,Ah AQ] 146))with drawn:=(Az W (M #[Ae ⟨Aw key⟩,Ah AQ] 146)).drawn+1}:=⟨((((Cq (K (U W)) W).alloc (Co _) (M #[Ae ⟨Aw key⟩,Ah AQ] 146)).cell (p:=⟨A,2,Ao⟩) l).trans c2 :),Cb (Cj W) 0,f⟩
  refine Ef (S:=λa=>A6 a A 2 (.map (H q.lm))/\A6 a (K (U W)) 0 (Ae ⟨Aw key⟩)/\E5 a 9 q.lm q.ln q.lf) B6 ?_;refine Ca 0 7 (A8 A) b ?_;refine Ca 1 8 (A8 A) b ?_;refine Ca 2 9 (A9 A 2) b ?_;refine Cf 3 10 (.map (H q.lm)) Z (λa d=>?y3) b ?_
  case y3=>(go_simp)
  refine Ca 4 11 (A8 (K (U W))) b ?_;refine Cf 5 12 (Ae ⟨Aw key⟩) Z (λa d=>?y5) b ?_
  case y5=>(go_simp)
  refine Cf 6 13 (C Y x) Z (λa d=>?y6) b ?_
  case y6=>(have m:=Rq d.2.2 Mz underlying178 (i6 hb);rw[AE i]at m;go_simp)
  refine Ca 7 4 (C Y x) b ?_;refine CG ?_;go_simp;go_wp2;go_ret;exact⟨Z,(Cl).drew⟩
 go_enter func103,ntmps103;go_wp2;go_ret;exact⟨Z,Cl⟩
theorem i9{P:Program}{w:X}{g o:I}{ty:AN}{O:A3}{d:TypeDesc}(f:∀(j:I) (u:Aq),O[j]?=H u->A6 w g (o+j) u)(e:P.underlying ty=H d)(h:(match d with|.struct _|.array _ _=>AP|_=>AQ)=AP)(hi:(P.info? ty).map (·.size)=H O.size):(loadVar ty ⟨g,o,Ao⟩).run P w=.ok (.agg O) w:=by
 have a:=YN (P:=P) w ⟨g,o,Ao⟩ O.toList (λj u k=>BR);rcases hq:P.info? ty with _|i
 .simp[hq]at hi
 have c:i.size=O.size:=by simpa[hq]using hi
 have b:(isAgg ty).run P w=.ok AP w:=by unfold isAgg;rw[Ig,MO e w];cases d<;>simp_all
 simp only[FE,YJ]at a;simp[loadVar,Ig,b,sizeOf,typeInfo,hq,c,a]
theorem ib{P:Program}{o:Oper}{a:Act}{w:X}{K:Act->X->Prop}{Q:Exit->Act->X->Prop}{ty:AN}{x:Operand}(e:o.op=.load ty x){g k:I}(hx:a.eval x=A9 g k){O:A3}{d:TypeDesc}(b:∀(j:I) (u:Aq),O[j]?=H u->A6 w g (k+j) u)(f:P.underlying ty=H d)(c:(match d with|.struct _|.array _ _=>AP|_=>AQ)=AP)(hi:(P.info? ty).map (·.size)=H O.size)(h:K (a.put o.dst (.agg O)) w):o.wp P a w K Q:=by unfold Oper.wp execOp;simp only[e,hx,Instr.loadAt,Instr.sureAddr,Ig,Ga,FT,i9 b f c hi];exact h
theorem PT{P:Program}{ops:Array Oper}{rest:AJ Oper}{o:Oper}{a:Act}{w:X}{Q:Exit->Act->X->Prop}{ty:AN}(x:Operand)(i:o.op=.load ty x)(f:Region.wanted o (yielded ops a.tmps)=AP){g k:I}(hx:a.eval x=A9 g k){O:A3}{d:TypeDesc}(c:∀(j:I) (u:Aq),O[j]?=H u->A6 w g (k+j) u)(l:P.underlying ty=H d)(e:(match d with|.struct _|.array _ _=>AP|_=>AQ)=AP)(hi:(P.info? ty).map (·.size)=H O.size)(h:wpList P ops Q rest (a.put o.dst (.agg O)) w):wpList P ops Q (o::rest) a w :=
 wpList_step λm b=>by rw[Cn f];exact ib i hx c l e hi (b _ _ h)
theorem Nz{P:Program}{ev:Operand->Aq}{W:X}{o:Oper}{ty:AN}(x:Operand)(c:o.op=.load ty x){g k:I}(hx:ev x=A9 g k){O:A3}{d:TypeDesc}(a:∀(j:I) (u:Aq),O[j]?=H u->A6 W g (k+j) u)(e:P.underlying ty=H d)(b:(match d with|.struct _|.array _ _=>AP|_=>AQ)=AP)(hi:(P.info? ty).map (·.size)=H O.size):(execOp ev o).run P W=.ok (.value (.agg O)) W:=by grind [execOp,Instr.loadAt,Instr.sureAddr,Sem.run_bind,Sem.run_pure,Result.andThen_ok,i9]
theorem xJ(x:(I->I)×J×J):Nw x=(Ev x.1 x.2).toList:=by simp[Nw,Ev]
theorem TN(a:I->I)(x:J×J):(Ev a x).size=18:=by simp[Ev,Mp]
theorem xK(a:I->I){x:J×J}:(Ev a x).all (·.oneCell')=AP:=by grind [gK]
theorem xL(a:AJ ((I->I)×J×J)):∀(i j:I) (x:(I->I)×J×J),a[i]?=H x->j<18->(a.flatMap Nw)[i*18+j]?=(Ev x.1 x.2)[j]?:=by induction a<;>grind [xJ,TN]
theorem DB.state_at(h:DB W0 A q sts sv nf mn mf W){x:(I->I)×J×J}(hx:sts[i]?=H x):∃g a,sv=T (H ⟨g,0,Ao⟩) (O sts) a/\g<K (U W)/\g≠A/\∀(j:I) (u:Aq),(Ev x.1 x.2)[j]?=H u->AC W ⟨g,i*18+j,Ao⟩=H u:=by
 have m:=Dh hx;rcases h.states.2 with⟨_,k⟩|⟨g,a,d,c,l,b,o,n,p,r⟩
 .omega
 refine⟨g,a,c,(Cc b),(h.own g keW).1,λj u s=>?_⟩;have f:j<18:=by grind [TN]
 rw[IJ W g (i*18+j) d _ _ b];have e:=xL sts i j x hx f;grind
theorem ie(a:I->I){x:J×J}:(prog.info? 203).map (·.size)=H (Ev a x).size:=by rw[TN];kernel_rfl
theorem xM(h:DB W0 A q sts sv nf mn mf W){x:(I->I)×J×J}(hx:sts[i]?=H x):Ar As 72 #[A8 A,C Y i] W λe c=>e=Ak (Af #[C Y x.2.1,C Y x.2.2])/\A0 W c:=by
 obtain⟨g,d,rfl,l,k,f⟩:=h.state_at hx;have j:A6 W A 20 (T (Aa g) (O sts) d):=Cb h.row 20;have m:(i:J)<(O sts:J):=AY (Dh hx);have b:=G f;go_enter func72,ntmps72
 go_wp2_with(first
  |(refine PT (.tmp 12) Z ke4 Z b underlying203 Z (ie x.1) ?_)
  |(refine Db Z 203 _ _ Z (K (U W)) (Ev x.1 x.2) Z Z 203 #[C .u16 0,C .u16 0,C .u16 0,C .u16 0,C .u16 0,C .u16 0,C .u16 0,C .u16 0,C .u16 0,C .u16 0,C .u16 0,C .u16 0,C .u16 0,C .u16 0,C .u16 0,C .u16 0,C Y 0,C Y 0] (Cj W) (ie x.1) (by rw[TN];rfl) (xK x.1) ?_;rw[IT]))
 have a:D (A0 W (Az W (M (Ev x.1 x.2) 203))):=Cl;have n:(Az W (M (Ev x.1 x.2) 203)).cell? ⟨K (U W),16,Ao⟩=H (C Y x.2.1):=Cb (Cj W) 16;have o:(Az W (M (Ev x.1 x.2) 203)).cell? ⟨K (U W),17,Ao⟩=H (C Y x.2.2):=Cb (Cj W) 17;generalize Az W (M (Ev x.1 x.2) 203)=V at *
 go_quiet (fail)
 go_wp2;refine CL (Fw results72 _ _ _) Z ⟨Z,a.trans ⟨Z,Z,Z,Co _,λ_ _=>rfl⟩⟩
theorem ig(x:I)(h:x<1000000000):(Lit.int Y (x:J)).wf=AP:=by have a:IntKind.i64.min = -9223372036854775808:=B6;have b:IntKind.i64.max=9223372036854775807:=B6;grind [Lit.wf]
def EF(f x:AH):A3:=#[Ab Al f,Ab Al x]
theorem xN(f x:Nat)(h:f<1000000000)(hx:x<1000000000):∃l,keyOf prog 199 (.agg (EF f x))=some l:=by
 obtain⟨d,g⟩:∃d,prog.types.size+1=d+2:=⟨prog.types.size-1,Br⟩
 have c:prog.keyType 199=true:=B6;have a:prog.cellsOf 199=2:=B6;have b:prog.cellsOf 3=1:=B6;have i:(Value.agg (EF f x)).formed prog 199=true:=by simp only[Value.formed,underlying199];rw[a];rfl
 have k:∀y:Nat,y<1000000000->prog.keyLits (d+1) 3 [.int .i64 y]=some [.int .i64 y]:=by intro y m;unfold Program.keyLits;grind [underlying3,ig]
 have j:prog.keyLits (d+2) 199 (EF f x).toList=some [.int .i64 f,.int .i64 x]:=by unfold Program.keyLits;simp only[underlying199];rw[Cn ⟨keF,B6⟩];simp only[List.mapM_cons,List.mapM_nil,b,EF];simp_all
 refine⟨.string (keyBytes [.int .i64 f,.int .i64 x]),?_⟩;unfold keyOf;simp only[underlying199];have e:(Value.agg (EF f x)).cells=EF f x:=rfl;grind
def OG(q:D5)(sts:AJ ((AH->AH)×AI×AI))(mf:Lit->Option AH):Prop :=
 ∀(f x:AH) (l:Lit) (k:AH),keyOf As 199 (.agg (EF f x))=An l->mf l=An k->∃s t Y,sts[f]?=An s/\sts[k]?=An t/\PP (At q.rs) q.st (I8 q.st (q.tk x) s.1 (At q.rs)) Y/\∀r,r<16->t.1 r=Y r
theorem xO(h:DB W0 A q sts sv nf mn mf W){f:I}(hb:O key<=maxLen)(hx:Ks q.lf key ix=x){l:Lit}(hl:keyOf As 199 (.agg (EF f x))=H l)(hi:mf l=H i):Ar As 71 #[A8 A,C Y f,Ag #[Ae ⟨Aw key⟩,Ah ix]] W λe t=>e=Ak (C Y i)/\A0 W t:=by
 have g:D (DB W0 A q sts sv nf mn mf (Az W (M #[Ae ⟨Aw key⟩,Ah ix] 146))):=h.next Cl
 have k:D (A0 W (Az W (M #[Ae ⟨Aw key⟩,Ah ix] 146))):=Cl;have n:=i7 g ix hb;rw[hx]at n;go_enter func71,ntmps71
 go_wp2_with(first
  |(go_at_call 103;refine n.mono ?_;rintro e c ⟨rfl,o⟩;have p:=G (g.next o);have m:=G (k.trans (o.mono k.size))))
 have j:D (DB W0 A q sts sv nf mn mf (Az c (M (EF f x) 199))):=p.next Cl
 have s:D (A0 W (Az c (M (EF f x) 199))):=m.alloc m.size _;have r:D ((Az c (M (EF f x) 199)).heap[K (U c)]?=H (M (EF f x) 199)):=Cj _;have a:(λb:X=>A6 b A 22 (.map (H q.mb))/\A7 b (K (U c)) (EF f x) 199/\E5 b 199 q.mb mn mf) { (Az c (M (EF f x) 199))with drawn:=(Az c (M (EF f x) 199)).drawn+1}:=⟨Cb j.row 22,r,j.moves⟩
 refine Ef (S:=λb=>A6 b A 22 (.map (H q.mb))/\A7 b (K (U c)) (EF f x) 199/\E5 b 199 q.mb mn mf) B6 ?_;refine Ca 0 16 (A8 A) a ?_;refine Ca 1 17 (A8 A) a ?_;refine Ca 2 18 (A9 A 22) a ?_;refine Cf 3 19 (.map (H q.mb)) Z (λb d=>?y3) a ?_
 case y3=>(go_simp)
 refine Cf 4 20 (.agg (EF f x)) Z (λb d=>?y4) a ?_
 case y4=>exact LG (.tmp 7) rfl rfl d.2.1 underlying199 rfl B6
 refine Cf 5 21 (Af #[C Y i,Ah AP]) Z (λb d=>?y5) a ?_
 case y5=>(have u:=TA d.2.2 Xg underlying180 hl;rw[hi]at u;go_simp)
 refine Ca 6 15 (Af #[C Y i,Ah AP]) a ?_;refine Ca 7 22 (C Y i) a ?_;refine Ca 8 23 (Ah AP) a ?_;refine Ca 9 8 (C Y i) a ?_;refine Ca 10 9 (Ah AP) a ?_;refine CG ?_;go_simp;go_wp2;go_ret;exact⟨Z,s.drew⟩
theorem DB.auR(h:DB W0 A q sts sv nf mn mf W):Nv W A q.ra q.rc (O q.rs) q.st :=
 ⟨(Cc h.row),Cb h.row 0,λr a=>by
  rw[IJ W A (3+r) _ _ _ h.row]
  match r,a with
  |0,_|1,_|2,_|3,_|4,_|5,_|6,_|7,_|8,_|9,_|10,_|11,_|12,_|13,_|14,_|15,_=>rfl
  |n+16,a=>omega⟩
theorem DB.auT(h:DB W0 A q sts sv nf mn mf W):Rp W A q.tb q.L q.tc q.tk:=by obtain⟨e,a,d⟩:=h.takes;exact⟨(Cc h.row),(Cc a),Cb h.row 19,λx r c b=>(IJ W q.tb (x*16+r) _ _ _ a).trans (d x r c b)⟩
theorem DB.moved{mn':I}{mf':Lit->Option I}(h:DB W0 A q sts sv nf mn mf W)(a:W.grownBy W' (H q.mb))(m:E5 W' 199 q.mb mn' mf'):DB W0 A q sts sv nf mn' mf' W':=by
 obtain⟨o,p,r,f,s,t,j,u,k,d⟩:=h.apart;obtain⟨v,w,x,y,z⟩:=h.high;obtain⟨l,c,n⟩:=h.takes;exact{h with
  row:=(a.block A (Cc h.row) ker).trans h.row
  below:=⟨a.os.trans h.below.os,a.tape.trans h.below.tape,a.output.trans h.below.output,Cy h.below.size a.size,λi b=>(a.block i (CK b h.below.size) B7).trans (h.below.block i b)⟩
  letters:=h.letters.kept a keS
  takes:=⟨l,(a.block _ (Cc c) (by simpa using k)).trans c,n⟩
  states:=PQ h.states λg e=>a.block g (Ru h.states e) (by simpa using(h.own g e).2.2.2.2)
  numbers:=h.numbers.kept a BX
  moves:=m}
theorem JA.of_below(h:A0 W W'):JA A q sv W W':=⟨h.size,λj a _ _ _ _=>h.block j a⟩
theorem JA.trans{W V X:Ap}(h:JA A q sv W V)(g:JA A q sv V X):JA A q sv W X :=
 ⟨Cy h.size g.size,λj e a b c d=>(g.block j (CK e h.size) a b c d).trans (h.block j e a b c d)⟩
def ii(W0:Ap)(A:AH)(q:D5)(sts:AJ ((AH->AH)×AI×AI))(sv:Aq)(P:AH->AH)(x mn:AH)(W:Ap)(e:Ending)(W':Ap):Prop :=
 ∃(i:AH) (sts':AJ ((AH->AH)×AI×AI)) (sa':A4) (sc':AH) (nf':Lit->Option AH) (mn':AH) (mf':Lit->Option AH),e=Ak (Ab Al i)/\DB W0 A q sts' (Ac sa' (At sts') sc') nf' mn' mf' W'/\OG q sts' mf'/\mn'<=mn+1/\(∀(j:AH) (x:(AH->AH)×AI×AI),sts[j]?=An x->sts'[j]?=An x)/\At sts'<=At sts+1/\∃t Y,sts'[i]?=An t/\PP (At q.rs) q.st (I8 q.st (q.tk x) P (At q.rs)) Y/\(∀r,r<16->t.1 r=Y r)/\JA A q sv W W'/\OE sv (Ac sa' (At sts') sc') W
theorem xP(P:X)(A:I)(q:D5)(d:AJ ((I->I)×J×J))(R:A4)(o:I)(nf:Lit->Option I)(v:I)(n:Lit->Option I)(W:X)(h:DB P A q d (T R (O d) o) nf v n W)(bf:OG q d n)(bh:O d<100000)(bv:v<100000)(f:I)(s:(I->I)×J×J)(hs:d[f]?=H s)(key:A1)(Q:AK)(hb:O key<=maxLen)(x:I)(hx:Ks q.lf key Q=x)(hxL:x<q.L)(l:Lit)(hl:keyOf As 199 (.agg (EF f x))=H l)(hi:n l=Ao):Ar As 71 #[A8 A,C Y f,Ag #[Ae ⟨Aw key⟩,Ah Q]] W (ii P A q d (T R (O d) o) s.1 x v W):=by
 have HA:D (DB P A q d (T R (O d) o) nf v n (Az W (M #[Ae ⟨Aw key⟩,Ah Q] 146))):=h.next Cl
 have HW:D (A0 W (Az W (M #[Ae ⟨Aw key⟩,Ah Q] 146))):=Cl;have cL:=i7 HA Q hb;rw[hx]at cL;have ay:=G bf;go_enter func71,ntmps71
 go_wp2_with(first
  |(go_at_call 103;refine cL.mono ?_;rintro e c ⟨rfl,B⟩;have N:=G (HA.next B);have am:=G (HW.trans (B.mono HW.size))))
 have aa:D (DB P A q d (T R (O d) o) nf v n (Az c (M #[C Y f,C Y x] 199))):=N.next Cl
 have al:D ((Az c (M #[C Y f,C Y x] 199)).heap[K (U c)]?=H (M (EF f x) 199)):=Cj _;have bo:D (∀g,Ax (Go.Value.slice R (O d) o)=H g->g<K (U c)):=λg e=>Ru N.states e;have bn:D (A<K (U c)/\q.nb<K (U c)/\q.mb<K (U c)):=⟨(Cc N.row),N.numbers.lt,N.moves.lt⟩
 have a5:D (A0 W (Az c (M #[C Y f,C Y x] 199))):=am.alloc am.size _;generalize Az c (M #[C Y f,C Y x] 199)=V0 at *;refine Dl (S:=λa=>A6 a A 22 (.map (H q.mb))/\A7 a (K (U c)) (EF f x) 199/\E5 a 199 q.mb v n) (⟨Cb aa.row 22,al,aa.moves⟩) B6 ?_;intro b;refine Ca 0 16 (A8 A) b ?_;refine Ca 1 17 (A8 A) b ?_;refine Ca 2 18 (A9 A 22) b ?_;refine Cf 3 19 (.map (H q.mb)) Z (λa m=>?y3) b ?_
 case y3=>(have z1:=m.1;go_simp)
 refine Cf 4 20 (.agg (EF f x)) Z (λa m=>?y4) b ?_
 case y4=>exact LG (.tmp 7) rfl rfl m.2.1 underlying199 rfl B6
 refine Cf 5 21 (Af #[C Y 0,Ah AQ]) Z (λa m=>?y5) b ?_
 case y5=>(have z2:=TA m.2.2 Xg underlying180 hl;rw[hi]at z2;go_simp)
 refine Ca 6 15 (Af #[C Y 0,Ah AQ]) b ?_;refine Ca 7 22 (C Y 0) b ?_;refine Ca 8 23 (Ah AQ) b ?_;refine Ca 9 8 (C Y 0) b ?_;refine Ca 10 9 (Ah AQ) b ?_;refine CG ?_;go_simp;have ab:=G (aa.next (Cq _ _).drew);have av:D ((World.drew V0).heap[K (U c)]?=H (M (EF f x) 199)):=AE al;have a6:=G (a5.drew);generalize World.drew V0=V at *;obtain⟨g,bq,bi,bs,br,hc⟩:=ab.state_at hs;injection bi with r _ e3;subst r;subst e3;have a9:A6 V A 20 (T (Aa g) (O d) o):=Cb ab.row 20;have bt:(f:J)<(O d:J):=AY (Dh hs);have HC:D (∀(j:I) (u:Aq),(Cw s.1)[j]?=H u->A6 V g (f*18+j) u):=λj u hu=>hc j u (by grind [Ev]);go_wp2;have b:(λa:X=>A7 a (K (U c)) (EF f x) 199) {V with drawn:=V.drawn+1}:=AE av;have w:D (DB P A q d (T (Aa g) (O d) o) nf v n {V with drawn:=V.drawn+1}):=ab.next (Cq _ _).drew
 have aw:D (∀(j:I) (u:Aq),(Cw s.1)[j]?=H u->({V with drawn:=V.drawn+1}:X).cell? ⟨g,f*18+j,Ao⟩=H u):=AE HC;have bp:({V with drawn:=V.drawn+1}:X).cell? ⟨A,20,Ao⟩=H (T (Aa g) (O d) o):=a9;have cA:=vW w.bits.1 w.bits.2 w.few.1 w.auR w.auT (w.here f s hs).2 hxL;refine Ef (S:=λa=>A7 a (K (U c)) (EF f x) 199) B6 ?_;have an:D (A0 W {V with drawn:=V.drawn+1}):=a6.drew;generalize({V with drawn:=V.drawn+1}:X)=V1 at *;refine Ca 0 26 (A8 A) b ?_;refine Ca 1 27 (A8 A) b ?_;refine Ca 2 28 (A8 A) b ?_;refine Ca 3 29 (A8 A) b ?_;refine Ca 4 30 (A9 A 20) b ?_;refine Ca 6 32 (C Y f) b ?_;refine Ca 10 36 (A9 (K (U c)) 1) b ?_;refine Cf 11 37 (C Y x) Z (λa m=>?y11) b ?_
 case y11=>(have z1:A6 a (K (U c)) 1 (C Y x):=Cb m 1;go_simp)
 refine CC 5 (λz k=>?_);go_simp;refine k.out _ _ b (λ_=>?_);refine CC 7 (λz k=>?_);go_simp;refine k.out _ _ b (λ_=>?_);refine CC 8 (λz k=>?_);go_simp;refine k.out _ _ b (λ_=>?_);refine CC 9 (λz k=>?_);refine Kp B6 ?_;refine ib Z Z aw underlying183 Z (FO s.1) ?_;refine k.out _ _ b (λ_=>?_);refine CC 12 (λz k=>?_);go_simp;refine cA.mono ?_;rintro e w4 ⟨⟨ap,rfl,hY⟩,B⟩;simp only[];have HY:=G hY;have ar:=G (w.next B);have ae:(λa:X=>A7 a (K (U c)) (EF f x) 199) w4:=(B.block _ (Cc b)).trans b;refine k.out _ _ ae (λ_=>?_);have ao:D (JA A q (T (Aa g) (O d) o) W w4):=JA.of_below (an.trans (B.mono an.size));refine CC 13 (λz k=>?_);go_simp;refine(gZ ar HY.2.2 bh).mono ?_;rintro e w6 ⟨i,ai,bl,bm,bk,rfl,hF,bb,ba,bg,be,aj,ht,bj⟩;simp only[];have au:=G ba;have af:(λa:X=>A7 a (K (U c)) (EF f x) 199) w6:=(hF.block _ (Cc ae) (λe=>by grind [D]) (by grind [D]) (by grind [D]) (by grind [D])).trans ae;have a0:=G bg;have ad:D (ai[i]?=H aj/\∀ah,ah<16->aj.1 ah=ap ah):=⟨ht,bj⟩
 refine k.out _ _ af (λ_=>?_);have az:=G (bb.mono ao.size);have a7:=G (ao.trans hF);refine Ca 14 8 (C Y i) af ?_;refine CG ?_;go_simp;go_wp2;have ac:=G (au.next (Cq _ _).drew);have bu:=Dh ad.1;obtain⟨w7,bw,bd,t⟩:=gu ac.moves Xg underlying180 E hl i E;obtain⟨F,r,e2⟩:∃F:Lit->Option I,F l=H i/\∀y,y≠l->F y=n y:=by have:=Classical.propDecidable;exact⟨λy=>if y=l then H i else n y,Cn Z,λy hh=>Ci hh⟩
 have ak:=G (ac.moved t (bd F r e2));have ax:D (OG q ai F):=by
  intro f2 x2 l2 k2 aq ag;by_cases e:l2=l
  .subst e;have e3:=Fg (r.symm.trans ag);have e4:=fX.inj aq hl;grind [EF]
  rw[e2 l2 e]at ag;obtain⟨s2,t2,Y2,a1,a2,a3,a4⟩:=ay.out f2 x2 l2 k2 aq ag;grind
 have p:(λa:X=>A6 a A 22 (.map (H q.mb))/\A7 a (K (U c)) (EF f x) 199) {w6 with drawn:=w6.drawn+1}:=⟨Cb ac.row 22,af⟩
 have bc:(λa:X=>A6 a A 22 (.map (H q.mb))/\A7 a (K (U c)) (EF f x) 199) w7:=⟨Cb ak.row 22,(t.block (K (U c)) (Cc p.2) (by grind [D])).trans p.2⟩
 have a8:=G (a7.trans ⟨t.size,λj hj _ _ _ hn=>t.block j hj (by simpa using hn)⟩);refine Ef (S:=λa=>A6 a A 22 (.map (H q.mb))/\A7 a (K (U c)) (EF f x) 199) B6 ?_;refine Ca 0 40 (A8 A) p ?_;refine Ca 1 41 (A8 A) p ?_;refine Ca 2 42 (A9 A 22) p ?_;refine Cf 3 43 (.map (H q.mb)) Z (λa m=>?y3) p ?_
 case y3=>(have z1:=m.1;go_simp)
 refine Cf 4 44 (.agg (EF f x)) Z (λa m=>?y4) p ?_
 case y4=>exact LG (.tmp 7) rfl rfl m.2 underlying199 rfl B6
 refine Ca 5 45 (C Y i) p ?_;refine CC 6 (λz k=>?_);go_simp;refine k.out _ _ bc (λ_=>?_);refine CG ?_;go_simp;go_wp2;go_ret;exact⟨i,ai,bl,bm,bk,v+1,F,Z,ak,ax,Co _,a0,be,aj,ap,ad.1,HY,ad.2,a8,az⟩
theorem xQ(h:DB W0 A q sts (T sa (O sts) sc) nf mn mf W)(c:OG q sts mf)(w:O sts<100000)(v:mn<100000){f:I}{s:(I->I)×J×J}(d:sts[f]?=H s)(hb:O key<=maxLen)(hx:Ks q.lf key ix=x)(hxL:x<q.L)(r:q.L<=100000):Ar As 71 #[A8 A,C Y f,Ag #[Ae ⟨Aw key⟩,Ah ix]] W (ii W0 A q sts (T sa (O sts) sc) s.1 x mn W):=by
 have u:=Dh d;obtain⟨l,b⟩:=xN f x E E;rcases hi:mf l with _|i
 .grind [xP]
 refine(xO h hb hx b hi).mono ?_;rintro e p ⟨rfl,a⟩;obtain⟨y,t,g,j,k,m,n⟩:=c f x l i b hi;have e:=Fg (d.symm.trans j);subst e;exact⟨i,sts,sa,sc,nf,mn,mf,rfl,h.next a,c,Qm _,λ_ _ o=>o,Qm _,t,g,k,m,n,JA.of_below a,.inl rfl⟩
end
section
open Go.RowKit Go.Shelf
theorem Rz:(prog.info? 249).map (·.size)=H 3:=B6
theorem ij(h:s.size<=2000):∃(p r:AT) (b:AK),p.data.toList=(Lib.cut s.data.toList [32]).1/\r.data.toList=(Lib.cut s.data.toList [32]).2.1/\p.size<=2000/\r.size<=2000 /\
  ∀w,Jg w->Ar As 174 #[.string s,Ae ⟨#[32]⟩] w λe f=>e=Ak (Af #[.string p,.string r,Ah b])/\A0 w f:=by
 have g:O s.data.toList=s.size:=FE;have a:(Lib.cut s.data.toList [32]).1.length<=2000/\(Lib.cut s.data.toList [32]).2.1.length<=2000:=by grind [My]
 refine⟨⟨(Lib.cut s.data.toList [32]).1.toArray⟩,⟨(Lib.cut s.data.toList [32]).2.1.toArray⟩,(Lib.cut s.data.toList [32]).2.2,Ba,Ba,a.1,a.2,λw c=>?_⟩;obtain⟨m,d⟩:=c.mlen;refine(Tryz.strings_Cut s ⟨#[32]⟩ m w E d).mono ?_;grind [MS,CO]
structure TO(w:World)(W:World):Prop where
 below:A0 w W
 res:W.heap[w.heap.size]?=some (.cells DO 249)
theorem TO.step(h:TO w W)(hb:A0 W W'):TO w W' :=
 ⟨h.below.trans (hb.mono h.below.size),(hb.block _ (Cc h.res)).trans h.res⟩
theorem xR(w:X):TO w (Az w (M DO 249)):=⟨Cl,Cj _⟩
section
attribute[local go_sem] Oper.semAt_some
theorem Xw:∀(q r:AJ A1) (i:I),q.all (De n)=AP->i+O q<=16->Jz n (q++r) i=Jz n r (i+O q)
 |[],r,i,_,_=>rfl
 |x::q,r,i,h,hl=>by rw[List.all_cons,F3]at h;rw[FU]at hl;rw[Lf,Jz,Cn ⟨h.1,E⟩,Xw q r (i+1) h.2 E,FU];congr 1;omega
def F1(n:AH)(l:A1):AI:=if 0<=DU n l then 6 else 0
def IC(n:AH)(l:A1):AI:=if 0<=DU n l then DU n l else 0
structure RA(w:World)(n:Nat)(pre:List DP)(c:Code)(W:World):Prop where
 ret:c=.ret
 below:A0 w W
 r0:Boxed W (w.heap.size+1) 124 (.slice none 0 0)
 r1:Boxed W (w.heap.size+2) 54 (.int .i64 6)
 bad:∃q x,pre=q++[x]/\Boxed W (w.heap.size+3) 3 (.int .i64 (q.length:Nat))/\(q.map CF).all (De n)=true/\q.length<=16/\¬(De n (CF x)=true/\q.length<16)
 size:w.heap.size+8<=W.heap.size
theorem RA.own{c:Code}(h:RA w n pre c W)(a:W.grownBy W' (H row))(j:K (U w)+4<=row):RA w n pre c W':=by obtain⟨q,x,e,d,b,f,g⟩:=h.bad;exact⟨h.ret,h.below.trans ⟨a.os,a.tape,a.output,a.size,λi k=>a.block i Bm B9⟩,h.r0.kept a B9,h.r1.kept a B9,⟨q,x,e,d.kept a B9,b,f,g⟩,Cy h.size a.size⟩
theorem ik(a:N<=K (U W))(b:k+3<=K (U W)):Tr N k W W.drew:=Tr.below' (Cq _ _).drew a b
theorem Tryz.infoRule2:(prog.info? 249).map (λi=>(i.zero,i.size,i.bytes))=H (H (.agg DO),3,40):=B6
theorem xS{hs:s.size<=2000}{xs:AJ DP}(e:¬s.size=0)(h:xs.map CF=D0 10 (CF ⟨s,hs⟩))(c:O xs<=16)(b:(xs.map CF).all (De n)=AP):DU n s.data.toList = -1:=by have a:D0 10 s.data.toList=xs.map CF:=h.symm;have d:O s.data.toList=s.size:=FE;unfold DU;rw[Ci E,Ci E,a];have:=Xw (xs.map CF) [] 0 b B9;rw[Qj]at this;rw[this];rfl
theorem xT{hs:s.size<=2000}{q:AJ DP}{x:DP}{r:AJ A1}(e:¬s.size=0)(h:D0 10 (CF ⟨s,hs⟩)=(q++[x]).map CF++r)(b:(q.map CF).all (De n)=AP)(d:O q<=16)(hx:¬(De n (CF x)=AP/\O q<16)):DU n s.data.toList=O q:=by have a:D0 10 s.data.toList=(q++[x]).map CF++r:=h;have c:O s.data.toList=s.size:=FE;unfold DU;rw[Ci E,Ci E,a,JP,KD,Xw (q.map CF) _ 0 b B9];grind [Jz]
theorem xU(a:(Az (Az (Az (Az (Az (Az (Az (Az w (M #[C Y n] 3)) (M #[T Ao 0 0] 124)) (M #[C Y 0] 54)) (M #[C Y 0] 3)) (M #[T Ao 0 0] 124)) (M #[.string s] 9)) (M #[Ae ⟨#[10]⟩] 9)) (M #[C Y 0] 3))=W0):L7 (K (U w)+5) 10 W0 s:=by
 subst a;generalize hA:Az (Az (Az (Az (Az w (M #[C Y n] 3)) (M #[T Ao 0 0] 124)) (M #[C Y 0] 54)) (M #[C Y 0] 3)) (M #[T Ao 0 0] 124)=A;have b:K (U w)+5=K (U A):=by rw[<-hA];simp
 rw[b];refine⟨?_,?_,?_⟩<;>grind [Below.heap_alloc,Cj,World.size_alloc]
theorem io(w:X)(n:I)(e:J):(Az (Az (Az (Az w (M #[C Y n] 3)) (M #[T Ao 0 0] 124)) (M #[C Y e] 54)) (M #[C Y 0] 3)).cell? ⟨K (U w)+1,0,Ao⟩=H (T Ao 0 0) /\
  (Az (Az (Az (Az w (M #[C Y n] 3)) (M #[T Ao 0 0] 124)) (M #[C Y e] 54)) (M #[C Y 0] 3)).cell? ⟨K (U w)+1+1,0,Ao⟩=H (C Y e) /\
  (Az (Az (Az (Az w (M #[C Y n] 3)) (M #[T Ao 0 0] 124)) (M #[C Y e] 54)) (M #[C Y 0] 3)).cell? ⟨K (U w)+1+1+1,0,Ao⟩=H (C Y 0):=by
 refine⟨?_,?_,?_⟩
 .have:=Boxed.new (Az w (M #[C Y n] 3)) 124 (T Ao 0 0);rw[CI]at this;exact((this.alloc _).alloc _).cell
 .have:=Boxed.new (Az (Az w (M #[C Y n] 3)) (M #[T Ao 0 0] 124)) 54 (C Y e);rw[CI,CI]at this;exact(this.alloc _).cell
 have:=Boxed.new (Az (Az (Az w (M #[C Y n] 3)) (M #[T Ao 0 0] 124)) (M #[C Y e] 54)) 3 (C Y 0);rw[CI,CI,CI]at this;exact this.cell
end
end
section
open Go.RowKit Go.Deep
theorem yt{L:AJ (J×J)}{a:A4}(cap:I)(g:O L<=maxLen)(b:FG w a L)(h:EV c L=AQ):Ar As 135 #[C Y c,T a (O L) cap] w λe f=>e=Ak (Af #[.agg CN,Ah AQ])/\A0 w f:=by
 by_cases d:1<=c/\c<=6/\O L<=30
 .obtain⟨n,rfl⟩:=OX (show 0<=c by omega);have i:Fb n L=AQ:=by grind [EV]
  refine(Zj E E d.2.2 b).mono ?_;grind [S5]
 grind [lD]
theorem yu{L:AJ (J×J)}{a:A4}(cap:I)(b:FG w a L)(h:EV c L=AP):Ar As 135 #[C Y c,T a (O L) cap] w λe f=>e=Ak (Af #[.agg (Di c.toNat (DY c.toNat L)),Ah AP])/\A0 w f:=by unfold EV at h;rw[F3]at h;have d:=Dk h.1;obtain⟨n,rfl⟩:=OX (show 0<=c by omega);refine(Zj E E d.2.2 b).mono ?_;grind [Zi]
def FP(c:AI)(L:AJ (AI×AI))(d k:AI):AI :=
 if EV c L&&Dt c.toNat d&&Dt c.toNat k then(if Ij c.toNat (DY c.toNat L)then 2 else if Jf c.toNat (DY c.toNat L)then 0 else 3)else 1
def J8(c:AI)(L:AJ (AI×AI))(d k:AI):A3:=if FP c L d k=0 then Di c.toNat (DY c.toNat L)else CN
def J9(c:AI)(L:AJ (AI×AI))(d k:AI):Aq:=Af #[.agg (J8 c L d k),Ab Al (FP c L d k)]
theorem XB{L:AJ (J×J)}{k:J}(h:(EV c L&&Dt c.toNat d&&Dt c.toNat k)=AQ):J9 c L d k=Af #[.agg CN,C Y 1]:=keo
theorem yv{L:AJ (J×J)}{k:J}(h:(EV c L&&Dt c.toNat d&&Dt c.toNat k)=AP)(a:Ij c.toNat (DY c.toNat L)=AP):J9 c L d k=Af #[.agg CN,C Y 2]:=keo
theorem yw{L:AJ (J×J)}{k:J}(h:(EV c L&&Dt c.toNat d&&Dt c.toNat k)=AP)(a:Ij c.toNat (DY c.toNat L)=AQ)(b:Jf c.toNat (DY c.toNat L)=AQ):J9 c L d k=Af #[.agg CN,C Y 3]:=keo
theorem yy{L:AJ (J×J)}{k:J}(h:(EV c L&&Dt c.toNat d&&Dt c.toNat k)=AP)(a:Ij c.toNat (DY c.toNat L)=AQ)(b:Jf c.toNat (DY c.toNat L)=AP):J9 c L d k=Af #[.agg (Di c.toNat (DY c.toNat L)),C Y 0]:=keo
structure RB(w:World)(N:Nat)(arr A:A3)(W:World):Prop where
 below:A0 w W
 box:W.heap[w.heap.size]?=some (.cells arr 40)
 res:W.heap[w.heap.size+1]?=some (.cells CN 123)
 own:W.heap[N]?=some (.cells A 123)
 lo:w.heap.size+1<N
theorem RB.step{A:A3}(h:RB w N arr A W)(hb:A0 W W'):RB w N arr A W':=by have a:=Cc h.own;have:=h.lo;exact⟨h.below.trans (hb.mono h.below.size),(hb.block _ E).trans h.box,(hb.block _ E).trans h.res,(hb.block _ a).trans h.own,h.lo⟩
theorem iF(w:X){w2:X}{A:A3}(hb:Below (K (U w)+1+1) (Az (Az w (M arr 40)) (M CN 123)) w2):RB w (K (U w2)) arr A (Az w2 (M A 123)):=by
 have a:=hb.size;simp only[CI,A0]at a;refine⟨(((Cl).alloc Ba _).trans (hb.mono E)).alloc E _,?_,?_,Cj _,E⟩
 .rw[Cx _ _ _ E,hb.block _ E,Cx _ _ _ Ba];exact Cj _
 rw[Cx _ _ _ E,hb.block _ E];grind [Cj,World.size_alloc]
theorem yz(arr:Array Value)(c:Int){L:List (Int×Int)}{ea:Option Addr}{ecap:Nat}{d k:Int}(f0:arr[0]?=some (.int .i64 c))(f1:arr[1]?=some (.slice ea L.length ecap))(f2:arr[2]?=some (.int .i64 d))(f4:arr[4]?=some (.int .i64 k))(hL:L.length<=maxLen){w:World}(hE:FG w ea L):Calls prog 92 #[.agg arr] w λe w'=>e=.returned (J9 c L d k)/\Below w.heap.size w w':=by
 have HE2:Hid (FG ((w.alloc (.cells arr 40)).alloc (.cells CN 123)) ea L):=hE.below ((Cl).alloc (by simp) _);have HL:=C9 hL;cases hnew:EV c L
 .have HF:Hid (J9 c L d k=.tuple #[.agg CN,.int .i64 1]):=XB (by rw[hnew];rfl);have cN:=yt ecap HL.out HE2.out hnew;go_enter func92,ntmps92
  go_wp2_with(first
   |(refine K8 rfl rfl rfl (w.heap.size+1) ?hN ?_;case hN=>(simp only[CI,A0];done))
   |(go_at_call 135;refine cN.mono ?_;rintro e w2 ⟨rfl,hB2⟩;have HT:=C9 (iF w (w2:=w2) (arr:=arr) (A:=CN) (by simp only[CI,A0]at hB2;exact hB2)))
   |(refine K8 rfl rfl rfl w2.heap.size rfl ?_)
   |(refine IZ rfl rfl rfl ?hl O0 ?_;case hl=>simp)
   |(refine Db rfl 123 _ _ rfl w2.heap.size CN rfl rfl 123 CN (Cj w2) (DG (D8)) rfl (GQ) ?_;rw[IT])
   |(refine Db rfl 123 _ _ rfl (w.heap.size+1) CN rfl rfl 123 CN HT.out.res (DG (D8)) rfl (GQ) ?_))
  refine CL (Ik results92 (g:=(w.heap.size+1)) (t:=123) (cs:=CN) (fr:=(0,0)) rfl (CM _ _ CN _ _ _ HT.out.res) underlying123 rfl (DG (D8)) (.int .i64 1) rfl) rfl ⟨by rw[HF.out],Dj HT.out.below (by omega)⟩
 have cN:=yu ecap HE2.out hnew;have HNN:=C9 hnew;have hcb:1<=c/\c<=6:=by grind [EV]
 clear hnew;obtain⟨n,rfl⟩:=OX (show 0<=c by omega);have hn:n<=6:=by omega
 rw[NV]at cN;have HT:Hid (∀x,Dt ((n:Int)).toNat x=Dt n x):=λx=>by rw[NV]
 have HC:Hid (Ij ((n:Int)).toNat (DY ((n:Int)).toNat L)=Ij n (DY n L)):=by grind [Hid]
 have HD:Hid (Jf ((n:Int)).toNat (DY ((n:Int)).toNat L)=Jf n (DY n L)):=by grind
 have HA:Hid (Di ((n:Int)).toNat (DY ((n:Int)).toNat L)=Di n (DY n L)):=by grind
 generalize DY n L=M at *;have hW:(Dt n d=false/\Hid (J9 n L d k=.tuple #[.agg CN,.int .i64 1]))\/(Dt n d=true/\Dt n k=false/\Hid (J9 n L d k=.tuple #[.agg CN,.int .i64 1]))\/(Dt n d=true/\Dt n k=true/\Ij n M=true/\Hid (J9 n L d k=.tuple #[.agg CN,.int .i64 2]))\/(Dt n d=true/\Dt n k=true/\Ij n M=false/\Jf n M=false/\Hid (J9 n L d k=.tuple #[.agg CN,.int .i64 3]))\/(Dt n d=true/\Dt n k=true/\Ij n M=false/\Jf n M=true/\Hid (J9 n L d k=.tuple #[.agg (Di n M),.int .i64 0])):=by
  cases hd:Dt n d
  .grind [Hid,XB]
  cases hk:Dt n k
  .grind [Hid,XB]
  grind [Hid,yw,yy,yv]
 clear HT HC HD HA HNN;have T1:=trivial;rcases hW with⟨hd,HF⟩|⟨hd,hk,HF⟩|⟨hd,hk,hcy,HF⟩|⟨hd,hk,hcy,hla,HF⟩|⟨hd,hk,hcy,hla,HF⟩
 all_goals
  go_enter func92,ntmps92
  go_wp2_with(first
   |(refine K8 rfl rfl rfl (w.heap.size+1) ?hN ?_;case hN=>(simp only[CI,A0];done))
   |(go_at_call 135;refine cN.mono ?_;clear cN;rintro e w2 ⟨rfl,hB2⟩;have HX:Hid (RB w w2.heap.size arr (Di n M) (w2.alloc (.cells (Di n M) 123))):=iF w (by simp only[CI,A0]at hB2;exact hB2);have hc2:=(Cb HX.out.box 2).trans f2)
   |(refine K8 rfl rfl rfl w2.heap.size rfl ?_)
   |(refine Db rfl 123 _ _ rfl w2.heap.size (Di n M) rfl rfl 123 CN (Cj w2) (DG (D8)) (by rw[D8];exact D8) (GQ) ?_;rw[IT])
   |(refine CT rfl 123 _ rfl _ rfl _ _ _ _ HX.out.own underlying123 rfl (DG (D8)) ?_)
   |(refine EU rfl rfl rfl HX.out.own underlying123 rfl (DG (D8)) ?_)
   |(refine IZ rfl rfl rfl ?hl O0 ?_;case hl=>simp)
   |(go_at_call 67;clear T1;refine(Pb (Ii n M).count d _).mono ?_;rintro e w3 ⟨rfl,hB3⟩;have HX3:=HX.out.step hB3;clear HX hc2;have HX:=C9 HX3;clear HX3 hB3;have hc2:=(Cb HX.out.box 4).trans f4)
   |(go_at_call 67;skip;refine(Pb (Ii n M).count k _).mono ?_;rintro e w3 ⟨rfl,hB3⟩;have HX3:=HX.out.step hB3;clear HX hc2;have HX:=C9 HX3;clear HX3 hB3;have hc2:=(Cb HX.out.box 4).trans f4)
   |(go_at_call 136;skip;refine(kX (Ii n M) hn).mono ?_;rintro e w3 ⟨rfl,hB3⟩;have HX3:=HX.out.step hB3;clear HX hc2;have HX:=C9 HX3;clear HX3 hB3;have hc2:=(Cb HX.out.box 4).trans f4)
   |(go_at_call 137;skip;refine(lh (Ii n M) hn).mono ?_;rintro e w3 ⟨rfl,hB3⟩;have HX3:=HX.out.step hB3;clear HX hc2;have HX:=C9 HX3;clear HX3 hB3;have hc2:=(Cb HX.out.box 4).trans f4)
   |(refine Db rfl 123 _ _ rfl (w.heap.size+1) CN rfl rfl 123 CN HX.out.res (DG (D8)) rfl (GQ) ?_)
   |(refine Db rfl 123 _ _ rfl (w.heap.size+1) (Di n M) rfl rfl 123 CN HX.out.res (DG (D8)) (by rw[D8];exact D8) (GQ) ?_))
  first
  |refine CL (Ik results92 (g:=(w.heap.size+1)) (cs:=CN) rfl (CM _ _ CN _ _ _ HX.out.res) underlying123 rfl (DG (D8)) (.int .i64 _) rfl) rfl ⟨by rw[HF.out],Dj HX.out.below (by omega)⟩
  |refine CL (Ik results92 rfl (CM _ _ CN _ _ _ HX.out.res) underlying123 rfl (DG (D8)) (.int .i64 0) rfl) rfl ⟨by rw[HF.out],Dj HX.out.below (by omega)⟩
end
section
open Go.RowKit
def LI(c:CD):AK:=EV c.labels c.L&&Dt c.labels.toNat c.dflt&&Dt c.labels.toNat c.clr
def Df(c:CD):AI :=
 if LI c=AQ then 1
 else if MA c.labels.toNat (DS c.labels.toNat c.L)=AQ then 2
 else if MB c.labels.toNat (DS c.labels.toNat c.L)=AQ then 3
 else if FR c.inn c.out c.depth c.bytes=AQ then 4
 else if Il c.B=AQ then 5
 else if 0<=DU c.labels.toNat c.pol.data.toList then 6 else 0
def Ew(c:CD):AI:=if Df c=6 then DU c.labels.toNat c.pol.data.toList else 0
structure NA(w:World)(c:CD)(W:World):Prop where
 below:A0 w W
 box:W.heap[w.heap.size]?=some (.cells c.arr 40)
theorem NA.step{c:CD}(h:NA w c W)(hb:A0 W W'):NA w c W' :=
 ⟨h.below.trans (hb.mono h.below.size),(hb.block _ (Cc h.box)).trans h.box⟩
theorem iH(w:X)(c:CD):NA w c (Az w (M c.arr 40)):=⟨Cl,Cj _⟩
theorem NA.cell{c:CD}(h:NA w c W)(j:I):AC W ⟨K (U w),j,Ao⟩=c.arr[j]?:=Cb h.box j
theorem NA.cfg{c:CD}(h:NA w c W)(a:Gz w c):Gz W c:=a.below h.below
theorem yB{c:CD}(h:Gz w c):Ar As 59 #[.agg c.arr] w λe d=>e=Ak (Ah (EV c.labels c.L))/\A0 w d:=by
 by_cases a:1<=c.labels/\c.labels<=6/\O c.L<=30
 .have e:EV c.labels c.L=Fb c.labels.toNat c.L:=by grind [EV]
  rw[e];have b:((c.labels.toNat:I):J)=c.labels:=OW E;exact we ⟨c.size,by rw[b];rfl,rfl⟩ E E a.2.2 h.edges
 have e:EV c.labels c.L=AQ:=by grind [EV]
 rw[e];exact wb Z Z (B4 h.eb) a
theorem TV{c:CD}(h:EV c.labels c.L=AP):((c.labels.toNat:I):J)=c.labels/\OH c.arr c.labels.toNat c.L c.ea c.ecap:=by unfold EV at h;rw[F3]at h;have b:=Dk h.1;have a:((c.labels.toNat:I):J)=c.labels:=OW E;exact⟨a,⟨⟨c.size,keF,Z⟩,E,b.2.2,h.2⟩⟩
def Dw(l:A1):AH×A1:=if l==[42]then(0,[])else if l==[42,42]then(1,[])else if l==[91,93]then(2,[])else(3,l)
def Gn(s:AH×A1):AJ Aq:=[Ab Al s.1,Ae ⟨Aw s.2⟩]
def EM(l:A1):AJ A1:=if l==[46]then[]else D0 47 l
def D6(l:A1):AJ A1×AI×AI:=match D0 32 l with
 |[p,b,c]=>(EM p,L2 b,ET ⟨Aw c⟩)
 |_=>([],0,0)
def EN(l:A1):AJ (AJ A1×AI×AI):=if At l=0 then[]else(D0 10 l).map D6
def DX(r:AJ A1×AI×AI):AJ (AH×A1)×AI×AI:=(r.1.map Dw,r.2)
theorem iL(h:De n l=AP):D0 32 l=[(Lib.cut l [32]).1,(Lib.cut (Lib.cut l [32]).2.1 [32]).1,(Lib.cut (Lib.cut l [32]).2.1 [32]).2.1]:=by
 rw[<-i5]at h;unfold TM at h;rcases My 32 l with⟨f,i⟩|⟨a,r,f,_,i⟩
 .rw[f]at h;rcases My 32 []with⟨c,g⟩|⟨a,r,_,c,_⟩
  .simp[c,Iv]at h
  simp at c
 rw[f]at h ⊢;rw[i];rcases My 32 r with⟨c,g⟩|⟨b,q,c,_,g⟩
 .grind [Xv]
 rw[c]at h ⊢;rw[g];rcases My 32 q with⟨j,k⟩|⟨d,e,j,k,m⟩<;>grind [i4]
theorem XG{p c:A1}(h:D0 32 l=[p,b,c]):D6 l=(EM p,L2 b,ET ⟨Aw c⟩):=by unfold D6;rw[h]
def F8(W:Ap)(lo:AH)(t:AN)(pa:A4)(cs:AJ Aq):Prop :=
 cs=[]\/∃b off cur fr,pa=An ⟨b,off,Ao⟩/\lo<=b/\W.heap[b]?=An (Aj cur t fr)/\∀j (h:j<At cs),cur[off+j]?=An cs[j]
theorem F8.kept{cs:AJ Aq}(h:F8 W lo t pa cs)(g:∀b a fr,lo<=b->W.heap[b]?=H (M a t fr)->lo'<=b/\W'.heap[b]?=H (M a t fr)):F8 W' lo' t pa cs:=by
 rcases h with h|⟨b,off,a,fr,c,d,e,f⟩
 .exact .inl h
 obtain⟨i,j⟩:=g b a fr d e;exact .inr ⟨b,off,a,fr,c,i,j,f⟩
theorem F8.below{cs:AJ Aq}(h:F8 W lo t pa cs)(hb:A0 W W'):F8 W' lo t pa cs :=
 h.kept λb _ _ c a=>⟨c,(hb.block b (Cc a)).trans a⟩
theorem iM(h:W.ownsRow base e size v n xs)(hl:lo<=base):∃d b,v=T d n b/\F8 W lo e d xs:=by
 obtain⟨k,⟨a,c⟩|⟨g,b,f,a,c,i,_,_,_,l⟩⟩:=h
 .subst c;exact⟨Ao,0,a,.inl (Q7 E)⟩
 refine⟨_,_,a,.inr ⟨g,0,f,_,Z,E,i,λj m=>?_⟩⟩;grind
def AA(W:Ap)(lo:AH)(t:AN)(xs:AJ Aq)(es:AJ (AJ Aq×AH×AI×AI)):Prop :=
 At xs=At es*3/\∀i (h:i<At es),∃pa pc,xs[i*3]?=An (Ac pa es[i].2.1 pc)/\xs[i*3+1]?=An (Ab Al es[i].2.2.1)/\xs[i*3+2]?=An (Ab Al es[i].2.2.2)/\F8 W lo t pa es[i].1
theorem TW:AA W lo t [] []:=⟨rfl,λi h=>Bx⟩
theorem AA.kept(h:AA W lo t xs es)(j:∀b a fr,lo<=b->W.heap[b]?=H (M a t fr)->lo'<=b/\W'.heap[b]?=H (M a t fr)):AA W' lo' t xs es:=by refine⟨h.1,λi g=>?_⟩;obtain⟨k,l,c,d,e,f⟩:=h.2 i g;exact⟨k,l,c,d,e,f.kept j⟩
theorem AA.below(h:AA W lo t xs es)(hb:A0 W W'):AA W' lo t xs es :=
 h.kept λb _ _ c a=>⟨c,(hb.block b (Cc a)).trans a⟩
theorem AA.push(h:AA W lo t xs es){e:AJ Aq×I×J×J}{pc:I}(k:F8 W lo t pa e.1):AA W lo t (xs++[T pa e.2.1 pc,C Y e.2.2.1,C Y e.2.2.2]) (es++[e]):=by
 have c:=h.1;refine⟨by simp[c];omega,λi a=>?_⟩;by_cases b:i<O es
 .obtain⟨m,n,d,f,g,j⟩:=h.2 i b;grind
 have l:i=O es:=by simp at a;omega
 simp_all
theorem iN:∀(ss:AJ (I×A1)) (j:I) (h:j<O ss),(ss.flatMap Gn)[j*2]?=H (C Y ss[j].1)/\(ss.flatMap Gn)[j*2+1]?=H (Ae ⟨ss[j].2.toArray⟩)
 |x::ss,0,_=>⟨rfl,rfl⟩
 |x::ss,j+1,h=>by have a:=iN ss j Bw;rw[UH,show(j+1)*2=j*2+2 by omega];exact a
theorem yL(a:AJ (I×A1)):O (a.flatMap Gn)=O a*2:=by
 induction a with
 |nil=>rfl
 |cons x a b =>
  rw[UH,Dc,b,FU];show 2+_=_;omega
def JG(r:AJ (AH×A1)×AI×AI):AJ Aq×AH×AI×AI:=(r.1.flatMap Gn,At r.1,r.2.1,r.2.2)
theorem yM(h:F8 W lo t pa (ss.flatMap Gn)):Oz W pa ss:=by
 refine⟨λi a=>?_⟩;have l:=yL ss;rcases h with h|⟨b,off,e,fr,f,g,j,k⟩
 .grind
 obtain⟨c,d⟩:=iN ss i a;grind [cell_of_row]
theorem yN(h:W.ownsRow base 249 3 v (O rs) xs)(f:AA W lo t xs (rs.map JG)):∃a c,v=T a (O rs) c/\J6 W a rs:=by
 obtain⟨k,⟨b,d⟩|⟨g,c,j,b,d,l,_,_,_,m⟩⟩:=h
 .exact⟨Ao,0,by rw[b,d],⟨λi e=>E⟩⟩
 refine⟨_,_,b,⟨λi e=>?_⟩⟩;obtain⟨r,s,n,o,p,q⟩:=f.2 i keV;grind [cell_of_row,JG,yM]
end
section
open Go.RowKit Go.Shelf
section
attribute[local go_sem] Oper.semAt_some
structure Hh(w:World)(pre:List DP)(W:World):Prop where
 below:A0 w W
 r0:Boxed W w.heap.size 247 (.slice none 0 0)
 r1:Boxed W (w.heap.size+1) 4 (.bool false)
 pat:∃ao cap xs,Boxed W (w.heap.size+2) 247 (.slice ao pre.length cap)/\W.ownsRow (w.heap.size+6) 254 2 (.slice ao pre.length cap) pre.length xs/\Hid (xs=pre.flatMap λx=>Gn (Dw (CF x)))
 le:pre.length<=8
 all:pre.all (λx=>Gl (CF x))=true
 size:w.heap.size+6<=W.heap.size
theorem Hh.own(h:Hh w pre W)(a:W.grownBy W' (H row))(c:row=K (U w)+3\/(K (U w)+6<=row/\∃o,W.heap[row]?=H o/\o.isCells=AQ)):Hh w pre W':=by
 obtain⟨g,j,p,m,d,n⟩:=h.pat;refine⟨h.below.trans ⟨a.os,a.tape,a.output,a.size,λi u=>a.block i Bm BA⟩,h.r0.kept a BA,h.r1.kept a BA,⟨g,j,p,m.kept a BA,d.kept a ?_,n⟩,h.le,h.all,Cy h.size a.size⟩;rcases d.2 with⟨b,_⟩|⟨s,q,r,b,t,l,_⟩
 .left;rw[b];rfl
 right;rw[b];intro e;cases e;rcases c with c|⟨_,o,f,k⟩
 .grind
 rw[l]at f;cases f;cases k
theorem Hh.out{post:AJ DP}(h:Hh w pre W)(hb:8<O post\/post.all (λx=>Gl (CF x))=AQ):Rt w post .ret (AB (AB W ⟨K (U w),0,Ao⟩ (T Ao 0 0)) ⟨K (U w)+1,0,Ao⟩ (Ah AQ)):=by
 have a:=Tr.set (K (U w)) (K (U w)+3) W (K (U w)) (T Ao 0 0) (Co _) E;have b:=Tr.set (K (U w)) (K (U w)+3) (AB W ⟨K (U w),0,Ao⟩ (T Ao 0 0)) (K (U w)+1) (Ah AQ) E E;refine⟨Z,h.below.trans (a.trans b).below,?_,?_,hb,?_⟩
 .exact(h.r0.set _).kept (grownBy_setCell' _ _ _) B9
 .exact Boxed.set _ (h.r1.kept (grownBy_setCell' _ _ _) B9)
 simp[World.setCell];exact h.size
theorem Hh.alloc(h:Hh w pre W)(o:Obj):Hh w pre (Az W o):=h.own (KB W o (H (K (U w)+3))) (.inl rfl)
theorem Hh.belowS(h:Hh w pre W)(hb:A0 W W'):Hh w pre W' :=
 h.own (row:=K (U w)+3) ⟨hb.os,hb.tape,hb.output,hb.size,λi a _=>hb.block i a⟩ (.inl rfl)
theorem yO(a:(Az (Az (Az (Az (Az (Az w (M #[T Ao 0 0] 247)) (M #[Ah AQ] 4)) (M #[T Ao 0 0] 247)) (M #[.string s] 9)) (M #[Ae ⟨#[47]⟩] 9)) (M #[C Y 0] 3))=W0):Hh w [] W0:=by
 subst a;refine⟨?_,?_,?_,⟨Ao,0,[],?_,Fa _ _ _ _,Z⟩,En _,Z,Ba⟩
 .exact(((((Cl).alloc Ba _).alloc B7 _).alloc B7 _).alloc B7 _).alloc B7 _
 .exact(((((Boxed.new w _ _).alloc _).alloc _).alloc _).alloc _).alloc _
 .have:=Boxed.new (Az w (M #[T Ao 0 0] 247)) 4 (Ah AQ);rw[CI]at this;exact(((this.alloc _).alloc _).alloc _).alloc _
 have:=Boxed.new (Az (Az w (M #[T Ao 0 0] 247)) (M #[Ah AQ] 4)) 247 (T Ao 0 0);rw[CI,CI]at this;exact((this.alloc _).alloc _).alloc _
theorem XH{x:DP}(hi:i<3)(h:(x.1.toList==J7 i)=AP):Gn (Dw (CF x))=[C Y (i:I),Ae ⟨#[]⟩]:=by
 have e:CF x=J7 i:=BW;rw[e]
 match i,hi with
 |0,_=>rfl
 |1,_=>rfl
 |2,_=>rfl
theorem yP{x:DP}(h:∀i,i<3->(x.1.toList==J7 i)=AQ):Gn (Dw (CF x))=[C Y 3,.string x.1]:=by
 have e:CF x=x.1.toList:=BW;have b:=h 0 E;have c:=h 1 E;have d:=h 2 E;simp only[J7]at b c d;have a:Dw (CF x)=(3,CF x):=by grind [Dw]
 rw[a];unfold Gn CF;rw[Rs];rfl
def yQ(s:AT)(w:Ap)(e:Ending)(w':Ap):Prop :=
 ∃a n cap,e=Ak (Af #[Ac a n cap,Ah (EY s.data.toList)])/\A0 w w'/\(EY s.data.toList=AP->n=At (EM s.data.toList)/\F8 w' (Au (Go.World.heap w)) 254 a (((EM s.data.toList).map Dw).flatMap Gn))
theorem yR{hs:s.size<=2000}{xs:AJ DP}{ao:A4}{cap D:I}(k:(s.toList==[46])=AQ)(h:xs.map CF=D0 47 (CF ⟨s,hs⟩))(n:W.ownsRow (K (U w)+6) 254 2 (T ao (O xs) cap) (O xs) ys)(hy:ys=xs.flatMap λx=>Gn (Dw (CF x)))(r:W.heap[D]?=H (.deferred (H [])))(g:∀j,K (U w)+6<=j->V.heap[j]?=W.heap[j]?):O xs=O (EM s.data.toList)/\F8 (V.putObj D (.deferred Ao)) (K (U w)) 254 ao (((EM s.data.toList).map Dw).flatMap Gn):=by
 have o:EM s.data.toList=xs.map CF:=by unfold EM;rw[<-RQ,k,RQ];exact h.symm
 obtain⟨t,p,l,i⟩:=iM n (Co _);injection l with he1 _ he3;subst he1;rw[o,LW];refine⟨Z,?_⟩;rw[MP,List.flatMap_map];have c:ys=xs.flatMap λa=>Gn ((Dw∘CF) a):=hy;rw[<-c];refine i.kept λb q fr d e=>⟨E,?_⟩
 have m:b≠D:=B9;have:=grownBy_putObj' V D (.deferred Ao);have f:=g b d;rw[this.block b B9 (by simpa using m),f];exact e
theorem Hh.push(x:DP)(h:Hh w pre W)(k:Boxed W (K (U w)+2) 247 v)(i:W.ownsRow (K (U w)+6) 254 2 v (O pre) xs)(c:w5.ownsRow (K (U w)+6) 254 2 v' (O pre+1) ys)(a:W.grownBy w5 (Ax v))(n:O pre<8)(m:Gl (CF x)=AP)(o:D (xs=pre.flatMap λx=>Gn (Dw (CF x))))(p:ys=xs++Gn (Dw (CF x))):Hh w (pre++[x]) (AB w5 ⟨K (U w)+1+1,0,Ao⟩ v')/\Tr (K (U w)) (K (U w)+3) W (AB w5 ⟨K (U w)+1+1,0,Ao⟩ v'):=by
 have key:=λg h=>DK i (g:=g) h;have d:Tr (K (U w)) (K (U w)+3) W w5:=Tr.grown i a h.size E E;have f:=Tr.set (K (U w)) (K (U w)+3) w5 (K (U w)+2) v' E E;have b:=grownBy_setCell' w5 (K (U w)+2) v';have l:=k.kept a (λe=>B9);obtain⟨g,j,rfl⟩:=ownsRow_succ c;refine⟨⟨h.below.trans (d.trans f).below,?_,?_,⟨Aa g,j,ys,?_,?_,?hy⟩,?_,?_,?_⟩,d.trans f⟩
 case hy =>
  grind [D]
 .exact(h.r0.kept a (λe=>B9)).kept b B9
 .exact(h.r1.kept a (λe=>B9)).kept b B9
 .rw[Dc];exact l.set _
 .rw[Dc];refine c.kept b (.inr (λe=>?_));have:=DK c e;omega
 .grind
 .rw[RW,h.all];simp[m]
 exact Cy h.size (d.trans f).below.size
theorem TX{x:DP}(h:Hh w pre V)(b:Tr (K (U w)) (K (U w)+3) W V)(g:Boxed V (K (U w)+2) 247 v)(e:V.ownsRow (K (U w)+6) 254 2 v (O pre) xs)(f:w5.ownsRow (K (U w)+6) 254 2 v' (O pre+1) ys)(d:V.grownBy w5 (Ax v))(l:¬(O pre:J)=8)(i:Gl (CF x)=AP)(j:D (xs=pre.flatMap λx=>Gn (Dw (CF x))))(k:ys=xs++Gn (Dw (CF x))):KeepsOthers W (AB w5 ⟨K (U w)+1+1,0,Ao⟩ v')/\GG (K (U w)+3) (K (U w)+3+3) W (AB w5 ⟨K (U w)+1+1,0,Ao⟩ v')/\Hh w (pre++[x]) (AB w5 ⟨K (U w)+1+1,0,Ao⟩ v'):=by obtain⟨c,a⟩:=h.push x g e f d (AY h.le) i j k;exact⟨(b.trans a).keep,(b.trans a).mid,c⟩
theorem yS{s:ByteArray}{w:World}(hs:s.size<=2000)(bi:Jg w):Calls prog 175 #[.string s] w λe w'=>yQ s w e w':=by
 obtain⟨i0,hi,al,am,an⟩:=DD Tryz.infoSeg;cases hd:(s.toList==[46])
 .have HG:=G bi;have HD:=G hd;refine(K7 (n:=10)).1 ?_;refine callsIn_of_wp_marks func175 Z trivial ?_ Z;simp only[ntmps175,KC,FU,Je,Nat.reduceAdd,Nat.reduceSub,NQ,NR,NU,NS,KG,Lf]
  gi_wp2
  refine S4.2 (YW ((S4 (n:=10)).1 ?_))
  gi_wp2_with fail
  refine wpIn_label ?_
  gi_wp2_with fail
  refine⟨trivial,(K7.2 (gD s ⟨#[47]⟩)).mono ?_⟩;rintro e w' ⟨rfl,rfl⟩;simp only[CI,A0]
  gi_wp2
  obtain⟨W0,ak⟩:=Dx (((((((w.alloc (.cells #[.slice none 0 0] 247)).alloc (.cells #[.bool false] 4)).alloc (.cells #[.slice none 0 0] 247)).alloc (.cells #[.string s] 9)).alloc (.cells #[.string ⟨#[47]⟩] 9)).alloc (.cells #[.int .i64 0] 3)));have bu:W0.heap.size=w.heap.size+6:=by rw[<-ak];simp
  have bh:=yO ak;have bf:=wD ak;rw[ak];refine gC Z E (gf:=195) Z trivial (enters_of func195 B6 Z)
   (st:=w.heap.size+3) E (lo:=w.heap.size+3) (hi:=w.heap.size+3+3) E (gG 9 (k:=(w.heap.size+3)) (s:=⟨s,hs⟩) bf) CO (λx=>rfl)
   (λpre W=>Hh w pre W) (λag pre W=>Rt w pre ag W)
   (λpre aa a6 h hg=>h.own hg (.inl rfl)) (λag pre aa a6 h hg=>h.own hg E)
   (λpre aa k ap o' h hB hk hc=>h.own (grownBy_putObj' aa k o') (.inr ⟨E,ap,hk,hc⟩)) (λag pre aa k ap o' h hB hk hc=>h.own (grownBy_putObj' aa k o') E)
   bh
   (λx=>{tmps:=#[.string s,undef,A8 w.heap.size,A8 (w.heap.size+1),A8 (w.heap.size+1+1),.string x.1,undef,undef,.string s,.bool false,.string s,.func (.func 195) #[] #[A8 (w.heap.size+1+1+1+1),A8 (w.heap.size+1+1+1),A8 (w.heap.size+1+1+1+1+1)],.string x.1,undef,undef,undef,undef,undef,undef,undef,undef,undef,undef,undef,undef,undef,undef,undef,undef,undef,undef,undef,undef,undef,undef,undef,undef,undef,undef,undef,undef],defers:=[]}) ?assign ?body ?done ?stop
  case assign =>
   intro ae x W d a
   gi_wp2
   exact a
  case body =>
   intro ae pre x W m bt;have f:=G m;obtain⟨q,u,N,y,ho,bc⟩:=m.pat;have bs:=m.le;have o:A6 W (w.heap.size+1+1) 0 (.slice q pre.length u):=y.cell;have c2:=m.r0.cell;have f2:=m.r0.frozen;have c3:=m.r1.cell;have f3:=m.r1.frozen;by_cases h8:(pre.length:Int)=8
   .clear m y ho bc
    gi_wp2
    exact⟨(gH w).keep,f.out.out (.inl B9)⟩
   have br:=MN.2 h8;obtain⟨b5,fr,l⟩:=(HG.out.below m.below).signs;have s0:=Cb l 0;have s1:=Cb l 1;have s2:=Cb l 2;have s3:=Cb l 3;have s4:=Cb l 4;have s5:=Cb l 5
   gi_wp2
   gi_loopg[17] 4 (λbe aq wr=>∃j:Nat,Hid (j+be=4)/\((j=0/\aq=.int .i64 0)\/(j=1/\aq=.int .i64 1)\/(j=2/\aq=.int .i64 2)\/(j=3/\aq=.int .i64 3))/\Hid (Hh w pre wr)/\Hid (Tr w.heap.size (w.heap.size+3) W wr)/\Hid (∀i,i<j->(x.1.toList==J7 i)=false))
   case atStart=>exact⟨0,rfl,.inl ⟨rfl,rfl⟩,f,Tr.refl _ _ _,λi hi=>E⟩
   case round =>
    obtain⟨j,hj,bj,f,t,ac⟩:=hrel;have bz:=λV=>wH V;have b2:=λV=>wI V;have b3:=λV=>wJ V;obtain⟨af,ai,b6,a3,bl,au⟩:=f.out.pat;have c:=G a3;have P:=G bl;have o:A6 wr (w.heap.size+1+1) 0 (.slice af pre.length ai):=a3.cell;have bv:=f.out.size;have bq:=λap=>(IV wr _ ap (by rw[o];rfl)).trans o;rcases bj with⟨rfl,rfl⟩|⟨rfl,rfl⟩|⟨rfl,rfl⟩|⟨rfl,rfl⟩
    .cases b:(x.1.toList==[42])
     .have ab:Hid (∀i,i<1->(x.1.toList==J7 i)=false):=λi hi=>by
       rcases Uq.1 hi with h|rfl
       .exact ac.out i h
       exact b
      gi_wp2
      gi_roundg 3
      case measure=>have:=hj.out;omega
      case rel=>exact⟨1,rfl,.inr (.inl ⟨rfl,Bb⟩),f.out.alloc _,t.out.trans (Tr.alloc _ _ _ _ E E),ab⟩
     gi_wp2_with(first
      |(gi_at_builtin;refine wpListIn_append_own _ Z _ _ 247 Z (w.heap.size+6) 254 i0 (.agg #[.int .i64 0,.string ByteArray.empty]) 2 24 underlying247 hi al am an Z B8 _ _ _ Z ((P.out.alloc _).alloc _) ⟨wr.heap.size+1,0,none⟩ 1 1 [.int .i64 0,.string ⟨#[]⟩] Z Z (TG) (λx b=>BH) Bc E B7 ?_;intro v' L z v a2;obtain⟨g5,aw,rfl⟩:=ownsRow_succ z;have F:=((c.out.alloc _).alloc _).kept v (λe=>kdW);have c5:A6 L (w.heap.size+1+1) 0 (.slice af pre.length ai):=F.cell;have f5:L.frozen? ⟨w.heap.size+1+1,0,none⟩=false:=F.frozen))
     exact TX ((f.out.alloc _).alloc _) ((t.out.trans (Tr.alloc _ _ _ _ E E)).trans (Tr.alloc _ _ _ _ B7 B7)) ((c.out.alloc _).alloc _) ((P.out.alloc _).alloc _) z v h8 (Xm (i:=0) b) au (by rw[XH (i:=0) E b];rfl)
    .cases b:(x.1.toList==[42,42])
     .have ab:Hid (∀i,i<2->(x.1.toList==J7 i)=false):=λi hi=>by
       rcases Uq.1 hi with h|rfl
       .exact ac.out i h
       exact b
      gi_wp2
      gi_roundg 2
      case measure=>have:=hj.out;omega
      case rel=>exact⟨2,rfl,.inr (.inr (.inl ⟨rfl,Bb⟩)),f.out.alloc _,t.out.trans (Tr.alloc _ _ _ _ E E),ab⟩
     gi_wp2_with(first
      |(gi_at_builtin;refine wpListIn_append_own _ Z _ _ 247 Z (w.heap.size+6) 254 i0 (.agg #[.int .i64 0,.string ByteArray.empty]) 2 24 underlying247 hi al am an Z B8 _ _ _ Z ((P.out.alloc _).alloc _) ⟨wr.heap.size+1,0,none⟩ 1 1 [.int .i64 1,.string ⟨#[]⟩] Z Z (TG) (λx b=>BH) Bc E B7 ?_;intro v' L z v a2;obtain⟨g5,aw,rfl⟩:=ownsRow_succ z;have F:=((c.out.alloc _).alloc _).kept v (λe=>kdW);have c5:A6 L (w.heap.size+1+1) 0 (.slice af pre.length ai):=F.cell;have f5:L.frozen? ⟨w.heap.size+1+1,0,none⟩=false:=F.frozen))
     exact TX ((f.out.alloc _).alloc _) ((t.out.trans (Tr.alloc _ _ _ _ E E)).trans (Tr.alloc _ _ _ _ B7 B7)) ((c.out.alloc _).alloc _) ((P.out.alloc _).alloc _) z v h8 (Xm (i:=1) b) au (by rw[XH (i:=1) E b];rfl)
    .cases b:(x.1.toList==[91,93])
     .have ab:Hid (∀i,i<3->(x.1.toList==J7 i)=false):=λi hi=>by
       rcases Uq.1 hi with h|rfl
       .exact ac.out i h
       exact b
      gi_wp2
      gi_roundg 1
      case measure=>have:=hj.out;omega
      case rel=>exact⟨3,rfl,.inr (.inr (.inr ⟨rfl,Bb⟩)),f.out.alloc _,t.out.trans (Tr.alloc _ _ _ _ E E),ab⟩
     gi_wp2_with(first
      |(gi_at_builtin;refine wpListIn_append_own _ Z _ _ 247 Z (w.heap.size+6) 254 i0 (.agg #[.int .i64 0,.string ByteArray.empty]) 2 24 underlying247 hi al am an Z B8 _ _ _ Z ((P.out.alloc _).alloc _) ⟨wr.heap.size+1,0,none⟩ 1 1 [.int .i64 2,.string ⟨#[]⟩] Z Z (TG) (λx b=>BH) Bc E B7 ?_;intro v' L z v a2;obtain⟨g5,aw,rfl⟩:=ownsRow_succ z;have F:=((c.out.alloc _).alloc _).kept v (λe=>kdW);have c5:A6 L (w.heap.size+1+1) 0 (.slice af pre.length ai):=F.cell;have f5:L.frozen? ⟨w.heap.size+1+1,0,none⟩=false:=F.frozen))
     exact TX ((f.out.alloc _).alloc _) ((t.out.trans (Tr.alloc _ _ _ _ E E)).trans (Tr.alloc _ _ _ _ B7 B7)) ((c.out.alloc _).alloc _) ((P.out.alloc _).alloc _) z v h8 (Xm (i:=2) b) au (by rw[XH (i:=2) E b];rfl)
    have cL:=uF x.2 (HG.out.below f.out.below)
    gi_wp2_with fail
    refine⟨trivial,((K7.2 cL).inRound ae).mono ?_⟩;rintro e R ⟨rfl,hB⟩;simp only[];have r:=G (f.out.belowS hB);have a1:=G (t.out.trans (Tr.below' hB E E));have bw:=r.out.size;obtain⟨g,B,bn,a4,bm,bb⟩:=r.out.pat;have a8:=G a4;have az:=G bm;have o:A6 R (w.heap.size+1+1) 0 (.slice g pre.length B):=a4.cell;have c2:=r.out.r0.cell;have f2:=r.out.r0.frozen;have c3:=r.out.r1.cell;have f3:=r.out.r1.frozen;have a5:=wE ac.out;have a7:=G (yP ac.out);cases bk:FN x.1.data.toList
    .have HX:Hid ((pre++[x]).all (λx=>Gl (CF x))=false):=B9
     gi_wp2
     exact⟨(a1.out.trans (gH w)).keep,r.out.out (.inr HX.out)⟩
    rw[bk]at a5;have a9:=G a5
    gi_wp2_with fail
    refine wpIn_region_any B6 ?_;have HC:=G (λV=>wu x.1 V (AY x.2));have ax:w.heap.size+1+1<R.heap.size:=E;have av:(World.drew R).cell? ⟨w.heap.size+1+1,0,none⟩=some (.slice g pre.length B):=o;change wpAnyIn _ _ _ _ _ _ _ _ _ (World.drew R);refine wK #[true,true,true,true,true,false,false] 2 (λV=>[(34,.slice g pre.length B),(35,.string x.1),(36,.string x.1),(37,.agg #[.int .i64 3,.string x.1]),(38,.slice (Aa V.heap.size) 1 1)]) (λV=>Below (World.drew R).heap.size (World.drew R) V) (λV=>V.alloc (.cells #[.int .i64 3,.string x.1] 254)) (λad=>?reg) ?tail
    case tail =>
     intro V bg;have aj:Below R.heap.size R V:=(((Cq _ R).drew).trans bg)
     have ay:=G (r.out.belowS aj);have ba:=G (a1.out.trans (Tr.below' aj E E));have bx:=ay.out.size;have a0:Hid (Boxed V (w.heap.size+2) 247 (.slice g pre.length B)):=(aj.block _ E).trans a8.out;have ar:Hid (V.ownsRow (w.heap.size+6) 254 2 (.slice g pre.length B) pre.length bn):=by
      refine⟨az.out.1,?_⟩;rcases az.out.2 with h0|⟨g',cp,bd,h0,h1,hh,h2⟩
      .exact .inl h0
      exact .inr ⟨g',cp,bd,h0,h1,(aj.block g' (Cc hh)).trans hh,h2⟩
     simp only[List.foldl];refine wpAnyIn_ready (rs:=[5]) B6 Ba ?_;refine AllReadyIn.cons Z (λd a=>?_) AllReadyIn.nil;rw[Cn kek];refine wL Z underlying247 hi al am an Z B8 Z (ar.out.alloc _) 1 1 Z Z (EI) (λx b=>BH) Bc E B7 ?_;intro v' L z v;obtain⟨g5,aw,rfl⟩:=ownsRow_succ z;have F:=(a0.out.alloc _).kept v (λe=>AY (DK ar.out e.symm));have c5:A6 L (w.heap.size+1+1) 0 (.slice g pre.length B):=F.cell;have f5:L.frozen? ⟨w.heap.size+1+1,0,none⟩=false:=F.frozen;refine a _ _ ?_;refine wpAnyIn_ready (rs:=[6]) B6 Ba ?_;refine AllReadyIn.cons Z (λd a=>?_) AllReadyIn.nil;go_simp;refine a _ _ ?_;refine wpAnyIn_done B6 ?_ _
     gi_wp2
     exact TX (ay.out.alloc _) (ba.out.trans (Tr.alloc _ _ _ _ E E)) (a0.out.alloc _) (ar.out.alloc _) z v h8 a9.out bb (by rw[a7.out])
    case reg =>
     refine wpAnyIn_ready (rs:=[0,1]) B6 Ba ?_;refine AllReadyIn.cons Z (λd a=>?_) (AllReadyIn.cons Z (λd a=>?_) AllReadyIn.nil)
     .go_simp;refine a _ _ ?_;refine wpAnyIn_ready (rs:=[1]) B6 Ba ?_;refine AllReadyIn.cons Z (λd a=>?_) AllReadyIn.nil;go_simp;refine a _ _ ?_;refine wpAnyIn_ready (rs:=[2]) B6 Ba ?_;refine AllReadyIn.cons Z (λd a=>?_) AllReadyIn.nil;go_simp;refine⟨trivial,((K7.2 (HC.out _)).inRound ae).mono ?_⟩;rintro e w3 ⟨rfl,Q⟩;simp only[];have ah:=(Q.cell (p:=⟨w.heap.size+1+1,0,none⟩) ax).trans av;refine a _ _ ?_;refine wpAnyIn_ready (rs:=[3]) B6 Ba ?_;refine AllReadyIn.cons Z (λd a=>?_) AllReadyIn.nil;go_simp;refine a _ _ ?_;refine wpAnyIn_ready (rs:=[4]) B6 Ba ?_;refine AllReadyIn.cons Z (λd a=>?_) AllReadyIn.nil;go_simp;refine a _ _ ?_;exact ad _ Q
     go_simp;refine a _ _ ?_;refine wpAnyIn_ready (rs:=[0,2]) B6 Ba ?_;refine AllReadyIn.cons Z (λd a=>?_) (AllReadyIn.cons Z (λd a=>?_) AllReadyIn.nil)
     .go_simp;refine a _ _ ?_;refine wpAnyIn_ready (rs:=[2]) B6 Ba ?_;refine AllReadyIn.cons Z (λd a=>?_) AllReadyIn.nil;go_simp;refine⟨trivial,((K7.2 (HC.out _)).inRound ae).mono ?_⟩;rintro e w3 ⟨rfl,Q⟩;simp only[];have ah:=(Q.cell (p:=⟨w.heap.size+1+1,0,none⟩) ax).trans av;refine a _ _ ?_;refine wpAnyIn_ready (rs:=[3]) B6 Ba ?_;refine AllReadyIn.cons Z (λd a=>?_) AllReadyIn.nil;go_simp;refine a _ _ ?_;refine wpAnyIn_ready (rs:=[4]) B6 Ba ?_;refine AllReadyIn.cons Z (λd a=>?_) AllReadyIn.nil;go_simp;refine a _ _ ?_;exact ad _ Q
     go_simp;refine⟨trivial,((K7.2 (HC.out _)).inRound ae).mono ?_⟩;rintro e w3 ⟨rfl,Q⟩;simp only[];have ah:=(Q.cell (p:=⟨w.heap.size+1+1,0,none⟩) ax).trans av;refine a _ _ ?_;refine wpAnyIn_ready (rs:=[0,3]) B6 Ba ?_;refine AllReadyIn.cons Z (λd a=>?_) (AllReadyIn.cons Z (λd a=>?_) AllReadyIn.nil)
     .go_simp;refine a _ _ ?_;refine wpAnyIn_ready (rs:=[3]) B6 Ba ?_;refine AllReadyIn.cons Z (λd a=>?_) AllReadyIn.nil;go_simp;refine a _ _ ?_;refine wpAnyIn_ready (rs:=[4]) B6 Ba ?_;refine AllReadyIn.cons Z (λd a=>?_) AllReadyIn.nil;go_simp;refine a _ _ ?_;exact ad _ Q
     go_simp;refine a _ _ ?_;refine wpAnyIn_ready (rs:=[0,4]) B6 Ba ?_;refine AllReadyIn.cons Z (λd a=>?_) (AllReadyIn.cons Z (λd a=>?_) AllReadyIn.nil)
     .go_simp;refine a _ _ ?_;refine wpAnyIn_ready (rs:=[4]) B6 Ba ?_;refine AllReadyIn.cons Z (λd a=>?_) AllReadyIn.nil;go_simp;refine a _ _ ?_;exact ad _ Q
     go_simp;refine a _ _ ?_;refine wpAnyIn_ready (rs:=[0]) B6 Ba ?_;refine AllReadyIn.cons Z (λd a=>?_) AllReadyIn.nil;have bp:(w3.alloc (.cells #[.int .i64 3,.string x.1] 254)).cell? ⟨w.heap.size+1+1,0,none⟩=some (.slice g pre.length B):=(IV w3 _ _ (by rw[ah];rfl)).trans ah;go_simp;refine a _ _ ?_;exact ad _ Q
  case done =>
   intro S N W hD hS m a;obtain⟨q,u,ys,y,ho,bo⟩:=m.pat;have P:=G ho;have f:=G m;have HS:=G hS;have HK:=G a;have o:A6 W (w.heap.size+1+1) 0 (.slice q N.length u):=y.cell;have c2:=m.r0.cell;have f2:=m.r0.frozen;have c3:=m.r1.cell;have f3:=m.r1.frozen
   gi_wp2
   refine M7 ?_;have A:=wF HD.out HS.out f.out.le f.out.all;have t1:=Tr.set w.heap.size (w.heap.size+3) W w.heap.size (.slice q N.length u) (Co _) E;have t2:=Tr.set w.heap.size (w.heap.size+3) (W.setCell ⟨w.heap.size,0,none⟩ (.slice q N.length u)) (w.heap.size+1) (.bool true) E E;have b0:Boxed ((W.setCell ⟨w.heap.size,0,none⟩ (.slice q N.length u)).setCell ⟨w.heap.size+1,0,none⟩ (.bool true)) w.heap.size 247 (.slice q N.length u):=(f.out.r0.set _).kept (grownBy_setCell' _ _ _) B9;have b1:Boxed ((W.setCell ⟨w.heap.size,0,none⟩ (.slice q N.length u)).setCell ⟨w.heap.size+1,0,none⟩ (.bool true)) (w.heap.size+1) 4 (.bool true):=Boxed.set _ (f.out.r1.kept (grownBy_setCell' _ _ _) B9);have hb:=f.out.below.trans (t1.trans t2).below;have a:=(t1.trans t2).keep.same S _ HK.out Z;have HC:Hid (∀j,w.heap.size+6<=j->((W.setCell ⟨w.heap.size,0,none⟩ (.slice q N.length u)).setCell ⟨w.heap.size+1,0,none⟩ (.bool true)).heap[j]?=W.heap[j]?):=λj hj=>(G9 _ _ _ _ B7).trans (G9 _ _ _ _ B7);generalize(W.setCell ⟨w.heap.size,0,none⟩ (.slice q N.length u)).setCell ⟨w.heap.size+1,0,none⟩ (.bool true)=V at *;refine⟨Ba,.inl ⟨S,_,Z,run_takeDeferred a,?_⟩⟩;have e0:=(b0.kept (grownBy_putObj' V S (.deferred none)) B9).cell;have e1:=(b1.kept (grownBy_putObj' V S (.deferred none)) B9).cell;refine⟨.tuple #[.slice q N.length u,.bool true],?_,⟨q,N.length,u,by rw[A],PI hb E,λ_=>?_⟩⟩
   .simp[results,f175,go_sem,e0,e1]
   grind [Hid,yR]
  case stop =>
   intro S ag pre W hD hS hX a;obtain rfl:=hX.ret
   gi_wp2
   refine M7 ?_;have A:EY s.data.toList=false:=by obtain⟨b4,hr⟩:=hS;exact wG HD.out hr hX.bad
   refine⟨Ba,.inl ⟨S,_,Z,run_takeDeferred a,?_⟩⟩;have e0:=(hX.r0.kept (grownBy_putObj' W S (.deferred none)) B9).cell;have e1:=(hX.r1.kept (grownBy_putObj' W S (.deferred none)) B9).cell;refine⟨.tuple #[.slice none 0 0,.bool false],?_,⟨none,0,0,by rw[A],PI hX.below E,λe=>by rw[A]at e;cases e⟩⟩;simp[results,f175,go_sem,e0,e1]
 have A:EY s.data.toList=true:=by grind [EY,Lib.toList_data]
 have HY:=G A;refine(K7 (n:=10)).1 ?_;refine callsIn_of_wp_marks func175 Z trivial ?_ Z;simp only[ntmps175,KC,FU,Je,Nat.reduceAdd,Nat.reduceSub,NQ,NR,NU,NS,KG,Lf]
 gi_wp2
 refine S4.2 (YW ((S4 (n:=10)).1 ?_))
 gi_wp2
 repeat(first|refine Tn ?_|refine M7 ?_)
 have e0:((w.alloc (.cells #[.slice none 0 0] 247)).alloc (.cells #[.bool true] 4)).cell? ⟨w.heap.size,0,none⟩=some (.slice none 0 0):=((Boxed.new w 247 (.slice none 0 0)).alloc _).cell;have e1:((w.alloc (.cells #[.slice none 0 0] 247)).alloc (.cells #[.bool true] 4)).cell? ⟨w.heap.size+1,0,none⟩=some (.bool true):=Br;refine⟨.tuple #[.slice none 0 0,.bool true],?_,⟨none,0,0,by rw[HY.out],?_,λ_=>?_⟩⟩
 .simp[results,f175,go_sem,e0,e1]
 .exact(Cl).alloc Ba _
 have y:EM s.data.toList=[]:=kea;rw[y];exact⟨Z,.inl Z⟩
end
def yU(n:AH)(s:AT)(w:Ap)(e:Ending)(w':Ap):Prop :=
 ∃a m cap x y,e=Ak (Af #[.agg (F7 a m cap x y),Ah (De n s.data.toList)])/\A0 w w'/\(De n s.data.toList=AP->m=(D6 s.data.toList).1.length/\x=(D6 s.data.toList).2.1/\y=(D6 s.data.toList).2.2/\F8 w' (Au (Go.World.heap w)) 254 a (((D6 s.data.toList).1.map Dw).flatMap Gn))
theorem yV(n:I)(hs:s.size<=2000)(hg:Jg w):Ar As 139 #[.string s,C Y n] w λe w'=>yU n s w e w':=by
 have j:D ((prog.info? 249).map (·.size)=H DO.size):=Rz;have o:=G hg;obtain⟨i,r0,b0,A,B,ag,ah,W⟩:=ij hs;obtain⟨d,f,b1,F,L,al,am,aa⟩:=ij ah;have hv:De n s.data.toList=(EY i.data.toList&&(Iv d.data.toList n&&ET f != 0)):=by rw[<-i5];unfold TM;rw[<-A,<-B,<-F,<-L,Rs]
 have HV:=G hv;have V:D (De n s.data.toList=AP->D6 s.data.toList=(EM i.data.toList,L2 d.data.toList,ET f)):=by intro hb;have Q:=iL hb;rw[<-A,<-B,<-F,<-L]at Q;have:=XG Q;omega
 have y:=G (xR w);have b:=W _ (o.below y.below);go_enter func139,ntmps139
 go_wp2_with(fail)
 refine b.mono ?_;rintro e w2 ⟨rfl,ac⟩;have z:=G (y.step ac);have ab:=aa _ (o.below z.below)
 go_wp2_with(fail)
 refine ab.mono ?_;rintro e w3 ⟨rfl,ad⟩;have p:=G (z.step ad);have cP:=yS ag (o.below p.below)
 go_wp2_with(fail)
 refine cP.mono ?_;rintro e w4 ⟨q,r,R,rfl,ae,af⟩;have S:=G af;have x:=G (Cc p.res);have a:=G (p.step ae);cases N:EY i.data.toList
 .have c:D (De n s.data.toList=AQ):=B9
  go_wp2_with(first
   |(go_at_call 176;refine(Wf d n _).mono ?_;rintro e u ⟨rfl,rfl⟩)
   |(go_at_call 177;refine(Wd f _).mono ?_;rintro e v ⟨rfl,rfl⟩)
   |(refine Db Z 249 _ _ Z (K (U w)) DO Z Z 249 DO a.res j Z TC ?_))
  refine CL (Ik results139 (g:=K (U w)) (t:=249) (cs:=DO) Z (CM _ _ DO _ _ _ a.res) underlying249 Z Rz (Ah AQ) Z) Z ⟨Ao,0,0,0,0,by rw[AE c];rfl,Dj a.below E,λe=>B9⟩
 cases P:Iv d.data.toList n
 .have c:D (De n s.data.toList=AQ):=B9;have h:=λw=>Wf d n w;rw[P]at h
  go_wp2_with(first
   |(go_at_call 176;refine(h _).mono ?_;rintro e u ⟨rfl,rfl⟩)
   |(go_at_call 177;refine(Wd f _).mono ?_;rintro e v ⟨rfl,rfl⟩)
   |(refine Db Z 249 _ _ Z (K (U w)) DO Z Z 249 DO a.res j Z TC ?_))
  refine CL (Ik results139 (g:=K (U w)) (t:=249) (cs:=DO) Z (CM _ _ DO _ _ _ a.res) underlying249 Z Rz (Ah AQ) Z) Z ⟨Ao,0,0,0,0,by rw[AE c];rfl,Dj a.below E,λe=>B9⟩
 have h:=λw=>Wf d n w;rw[P]at h;have k:=λw=>Wd f w;cases l:(ET f != 0)
 .have c:D (De n s.data.toList=AQ):=B9;rw[l]at k
  go_wp2_with(first
   |(go_at_call 176;refine(h _).mono ?_;rintro e u ⟨rfl,rfl⟩)
   |(go_at_call 177;refine(k _).mono ?_;rintro e v ⟨rfl,rfl⟩)
   |(refine Db Z 249 _ _ Z (K (U w)) DO Z Z 249 DO a.res j Z TC ?_))
  refine CL (Ik results139 (g:=K (U w)) (t:=249) (cs:=DO) Z (CM _ _ DO _ _ _ a.res) underlying249 Z Rz (Ah AQ) Z) Z ⟨Ao,0,0,0,0,by rw[AE c];rfl,Dj a.below E,λe=>B9⟩
 have c:D (De n s.data.toList=AP):=B9;rw[l]at k;have m:D (D6 s.data.toList=(EM i.data.toList,L2 d.data.toList,ET f)/\r=O (EM i.data.toList)/\F8 w4 (K (U w3)) 254 q (((EM i.data.toList).map Dw).flatMap Gn)):=⟨V c,S N⟩
 generalize L2 d.data.toList=li at *;generalize ET f=ai at *
 go_wp2_with(first
  |(go_at_call 176;refine(h _).mono ?_;rintro e u ⟨rfl,rfl⟩)
  |(go_at_call 177;refine(k _).mono ?_;rintro e v ⟨rfl,rfl⟩)
  |(refine Db Z 249 _ _ Z (K (U w)) (F7 q r R li ai) Z Z 249 DO a.res j Z (OD) ?_))
 refine CL (Ik results139 (g:=K (U w)) (t:=249) (cs:=(F7 q r R li ai)) Z (CM _ _ DO _ _ _ a.res) underlying249 Z Rz (Ah AP) Z) Z ⟨_,_,_,_,_,by rw[AE c],Dj a.below E,λ_=>?_⟩;rw[m.1];exact⟨m.2.1,Z,Z,m.2.2.kept λaj ak fr N l=>⟨AY (AE x),sx (AY (AE x)) l⟩⟩
end
section
open Go.RowKit
def FB(ks:AJ A1):Lit->Option AH
 |.string b=>if b∈ks then An (2+ks.idxOf b)else Ao
 |_=>Ao
theorem NB(h:b∈ks):FB ks (.string b)=H (2+ks.idxOf b):=Cn h
theorem PV(h:b∉ks):FB ks (.string b)=Ao:=Ci h
theorem zh(h:b∉ks):FB (ks++[b]) (.string b)=H (2+O ks):=by grind [NB]
theorem zl(_h:b∉ks)(l:Lit)(hl:l≠.string b):FB (ks++[b]) l=FB ks l:=by
 cases l with
 |string c =>
  grind [NB,PV]
 |_=>rfl
def Hj(W:Ap)(m:AH)(ks:AJ A1):Prop :=
 ∃D:A2,W.ownsMap As 9 (plainElem As 3) m (At ks) D/\(∀l,Maps.has D l=(FB ks l).isSome/\∀v:AH,FB ks l=An v->D.atKey l (.lit (.int Al 0))=.lit (.int Al v))/\Maps.size D=At ks
theorem Hj.im(h:Hj W m ks):E5 W 9 m (O ks) (FB ks):=by obtain⟨a,b,c,_⟩:=h;exact⟨a,b,c⟩
theorem Hj.kept{row:Option I}(h:Hj W m ks)(d:W.grownBy W' row)(e:H m≠row):Hj W' m ks:=BS
theorem XI(W:X):Hj (Az W (.map #[] 0)) (K (U W)) [] :=
 ⟨_,Yu W As _ _,λl=>⟨by cases l<;>simp[Maps.has,FB],λv h=>by cases l<;>simp[FB]at h⟩,rfl⟩
theorem Hj.len{t:I}(h:Hj W m ks)(d:prog.underlying t=H (.map 9 3))(a:AN):(Builtin.len_ #[t] a #[.map (H m)]).run As W=.ok (C Y (O ks)) W:=by obtain⟨e,b,_,c⟩:=h;rw[b.len d a,c]
theorem zm{t:I}(h:Hj W m ks)(p:prog.underlying t=H (.map 9 3))(v:O ks<100000)(hb:O b<=1000000000)(j:b∉ks):∃a,(Instr.mapUpdate t (.map (H m)) (Ae ⟨Aw b⟩) (C Y ((2+O ks:I):J))).run As W=.ok () a/\Hj a m (ks++[b])/\W.grownBy a (H m):=by
 obtain⟨f,c,s,g⟩:=h;have d:=N6 hb;obtain⟨a,o,n,i⟩:=c.store Mz p Bc d (US underlying3 (ig (2+O ks) E));have k:Maps.has f (.string b)=AQ:=by grind [PV]
 refine⟨a,o,⟨_,by rw[Dc];exact n,λl=>?_,?_⟩,i.grown⟩
 .by_cases e:l=.string b
  .subst e;rw[zh j];refine⟨UF c.isMap (Mz.key d) _,λu q=>?_⟩;have r:=Fg q;rw[<-r];exact YL c.isMap (Mz.key d) _ _
  grind [zl,Maps.has_put_other,Maps.atKey_put_other]
 rw[Maps.size_put (c.tidy Mz),k,g,Dc];rfl
def GJ(ks:AJ A1)(s:AH×A1):AJ A1:=if s.1=3/\s.2∉ks then ks++[s.2]else ks
def NC(ks:AJ A1)(r:AJ (AH×A1)×AI×AI):AJ A1:=r.1.foldl GJ ks
def Gp(rs:AJ (AJ (AH×A1)×AI×AI)):AJ A1:=rs.foldl NC []
theorem zp(ks:AJ A1)(s:I×A1):O (GJ ks s)<=O ks+1:=by grind [GJ]
theorem iR:∀(ss:AJ (I×A1)) (ks:AJ A1),O (ss.foldl GJ ks)<=O ks+O ss
 |[],ks=>Ba
 |s::ss,ks=>by have a:=iR ss (GJ ks s);grind [zp]
theorem ND{oi:Oper}(i dst:I)(hi:ops[i]?=H oi)(b:(Region.noSelect ops&&Region.free md ops listed i&&(Region.ready md ops listed).contains i&&oi.dst==H dst && !Region.wanted oi (yielded ops a.tmps))=AP)(d:∀c a w,Q (.panic c) (a.put (H dst) AO) w->Q (.panic c) a w)(e:S w)(h:wpAnyH P md ops Q S fuel (Ay listed i AP) (a.put (H dst) AO) w):wpAnyH P md ops Q S (fuel+1) listed a w:=by simp only[F3]at b;have f:oi.dst=H dst:=BU;rw[<-f]at d h;exact EA hi b.1.1.1.1 b.1.1.1.2 b.1.1.2 d (.inr ⟨by simpa using b.2,Z⟩) e h
structure Bt(b:Nat)(W W':World):Prop where
 os:W'.os=W.os
 tape:W'.tape=W.tape
 output:W'.output=W.output
 size:W.heap.size<=W'.heap.size
 block:∀k,k<W.heap.size->k≠b->W'.heap[k]?=W.heap[k]?
theorem Bt.refl(b:I)(W:X):Bt b W W:=⟨rfl,rfl,rfl,Co _,λ_ _ _=>rfl⟩
theorem Bt.trans{b:I}{A C:X}(h:Bt b A B)(k:Bt b B C):Bt b A C :=
 ⟨k.os.trans h.os,k.tape.trans h.tape,k.output.trans h.output,Cy h.size k.size,λi a c=>(k.block i (CK a h.size) c).trans (h.block i a c)⟩
theorem Bt.of_below{b:I}(h:A0 W W'):Bt b W W':=⟨h.os,h.tape,h.output,h.size,λk a _=>h.block k a⟩
structure LJ(W:World)(lm:Nat)(ks:List A1)(V:World):Prop where
 but:Bt lm W V
 names:Hj V lm ks
theorem LJ.next(h:LJ W lm ks V)(hb:A0 V V'):LJ W lm ks V' :=
 ⟨h.but.trans (Bt.of_below hb),h.names.kept (row:=Ao) ⟨hb.os,hb.tape,hb.output,hb.size,λi a _=>hb.block i a⟩ Ba⟩
theorem Bt.low(h:Bt lm W V)(a:A0 W0 W)(hl:K (U W0)<=lm):A0 W0 V :=
 ⟨h.os.trans a.os,h.tape.trans a.tape,h.output.trans a.output,Cy a.size h.size,λi b=>(h.block i (CK b a.size) E).trans (a.block i b)⟩
theorem Bt.cellA(h:Bt lm W V)(a:A<K (U W))(b:A≠lm)(c:A6 W A j u):A6 V A j u:=by have e:=h.block A a b;grind [World.cell?]
theorem iS(h:n<=128):wrap64 (2+(n:J))=((2+n:I):J):=by unfold wrap64;omega
theorem zr{ra:A4}{rc:I}(ar:A0 W0 W)(Q:A<K (U W))(R:A≠lm)(hl:K (U W0)<=lm)(hn:O rs<=16)(h8:∀i (h:i<O rs),rs[i].1.length<=8)(av:∀i (h:i<O rs) j (h2:j<rs[i].1.length),rs[i].1[j].2.length<=1000000000)(c0:A6 W A 0 (T ra (O rs) rc))(c2:A6 W A 2 (.map (H lm)))(hr:J6 W0 ra rs)(hm:Hj W lm []):Ar As 95 #[A8 A] W λap W'=>ap=Ak (Af #[])/\LJ W lm (Gp rs) W':=by
 have HR:=G hr;have N:=G ar;have HM:=G hm;go_enter func95,ntmps95;go_wp2
 go_loopg[12] (O rs) (λg z wr=>∃(k:I) (l:AJ A1),z=C Y k/\D (k+g=O rs)/\D (LJ W lm l wr)/\D (Gp rs=(rs.drop k).foldl NC l)/\D (O l<=8*k))
 case atStart=>exact⟨0,[],rfl,Bg,⟨Bt.refl _ _,HM⟩,rfl,kfo⟩
 case round =>
  obtain⟨k,l,rfl,hg,L,HK,HL⟩:=hrel;obtain _|g:=gk
  .have ax:¬(k:J)<(O rs:J):=AY (AE hg);have HE:D (Gp rs=l):=by grind [D]
   go_wp2;go_end0;grind [D]
  have w:k<O rs:=AY (AE hg);have ax:(k:J)<(O rs:J):=E;obtain⟨ao,off,V,pc,rfl,hb,e0,e1,e2,bc⟩:=(HR.below (L.but.low N hl)).at_ k w;have ak:D (Oz W0 V rs[k].1):=by obtain⟨b',be,bg,bh,b,au,f0,f1,f2,bb⟩:=HR.at_ k w;injection b with b;injection b with hab1 hab2;subst hab1;subst hab2;have e3:=((L.but.low N hl).cell (p:=⟨ao,off+k*3,Ao⟩) au).trans f0;grind
  have a9:=h8 k w;have aj:=G (av k w);have a1:D (Gp rs=(rs.drop (k+1)).foldl NC (rs[k].1.foldl GJ l)):=by have h:=AE HK;rw[KA w]at h;exact h
  have a5:D (LJ W lm l (Az wr (Aj #[T V rs[k].1.length pc,C Y rs[k].2.1,C Y rs[k].2.2] 249))):=L.next Cl
  go_wp2;generalize Az wr (Aj #[T V rs[k].1.length pc,C Y rs[k].2.1,C Y rs[k].2.2] 249)=V0 at *;generalize hss:rs[k].1=ss at *
  go_loopg[19] (O ss) (λu z an=>∃(j:I) (c:AJ A1),z=C Y j/\D (j+u=O ss)/\D (LJ W lm c an)/\D (ss.foldl GJ l=(ss.drop j).foldl GJ c)/\D (O c<=O l+j))
  case atStart=>grind
  case round =>
   obtain⟨j,c,rfl,ae,t,a2,a4⟩:=hrel;obtain _|u:=gk
   .have ay:¬(j:J)<(O ss:J):=AY (AE ae);have HE:D (ss.foldl GJ l=c):=by grind [D]
    go_wp2;go_roundg g
    case measure=>omega
    case rel=>exact⟨k+1,c,Bb,B9,t,by grind [D],by grind [D]⟩
   have af:j<O ss:=AY (AE ae);have ay:(j:J)<(O ss:J):=E;obtain⟨b2,bf,rfl,a7,s0,s1⟩:=(ak.below (t.but.low N hl)).at_ j af;have a3:D (ss.foldl GJ l=(ss.drop (j+1)).foldl GJ (GJ c ss[j])):=kel;have F:=G (aj j af);generalize ss[j]=sg at *;have s:D (LJ W lm c (Az wr (Aj #[C Y sg.1,Ae ⟨Aw sg.2⟩] 254))):=t.next Cl
   obtain⟨n,key⟩:=sg;have B:D ((Az wr (Aj #[C Y n,Ae ⟨Aw key⟩] 254)).heap[K (U wr)]?=H (Aj #[C Y n,Ae ⟨Aw key⟩] 254)):=Cj _;have a0:=G t.names.im.lt;clear t;go_wp2;generalize Az wr (Aj #[C Y n,Ae ⟨Aw key⟩] 254)=V1 at *;generalize K (U wr)=M at *;refine Dl (S:=λd=>A6 d A 2 (.map (H lm))/\A7 d M #[C Y n,Ae ⟨Aw key⟩] 254/\Hj d lm c) (⟨s.but.cellA Q R c2,B,s.names⟩) B6 ?_;intro a;by_cases ag:n=3
   .subst ag;by_cases e:key∈c
    .obtain⟨x,hx⟩:=IX (2+c.idxOf key);have P:D ((FB c (.string key)).getD 0=x):=by grind [NB]
     have bd:((x:J)==0)=AQ:=B7;have aa:D (GJ c (3,key)=c):=Ci (λh=>h.2 e);clear hx;refine Ca 0 23 (A8 M) a ?_;refine Cf 1 24 (C Y 3) Z (λd f=>?y1) a ?_
     case y1=>(have o:=Cb f.2.1 0;go_simp)
     refine Ca 2 25 (Ah AP) a ?_;refine Ca 3 26 (Ah AP) a ?_;refine Ca 4 27 (A8 A) a ?_;refine Ca 5 28 (A8 A) a ?_;refine Ca 6 29 (A9 A 2) a ?_;refine Cf 7 30 (.map (H lm)) Z (λd f=>?y7) a ?_
     case y7=>(have o:=f.1;go_simp)
     refine Ca 8 31 (A9 M 1) a ?_;refine Cf 9 32 (Ae ⟨Aw key⟩) Z (λd f=>?y9) a ?_
     case y9=>(have o:=Cb f.2.1 1;go_simp)
     refine Cf 10 33 (C Y x) Z (λd f=>?y10) a ?_
     case y10=>(have v:=Rq f.2.2.im Mz underlying178 (N6 F);rw[AE P]at v;go_simp)
     refine Cf 11 34 (Ah AQ) Z (λd f=>?y11) a ?_
     case y11=>(go_simp)
     refine Ca 12 35 (Ah AQ) a ?_;refine CG ?_;go_simp;have m:=G (s.next (Cq _ _).drew);go_wp2;go_roundg u
     case measure=>omega
     case rel=>exact⟨j+1,c,Bb,B9,m,by grind [D],by grind [D]⟩
    have P:D ((FB c (.string key)).getD 0=0):=by grind [PV]
    have aa:D (GJ c (3,key)=c++[key]):=Cn ⟨Z,e⟩;refine Ca 0 23 (A8 M) a ?_;refine Cf 1 24 (C Y 3) Z (λd f=>?y1) a ?_
    case y1=>(have o:=Cb f.2.1 0;go_simp)
    refine Ca 2 25 (Ah AP) a ?_;refine Ca 3 26 (Ah AP) a ?_;refine Ca 4 27 (A8 A) a ?_;refine Ca 5 28 (A8 A) a ?_;refine Ca 6 29 (A9 A 2) a ?_;refine Cf 7 30 (.map (H lm)) Z (λd f=>?y7) a ?_
    case y7=>(have o:=f.1;go_simp)
    refine Ca 8 31 (A9 M 1) a ?_;refine Cf 9 32 (Ae ⟨Aw key⟩) Z (λd f=>?y9) a ?_
    case y9=>(have o:=Cb f.2.1 1;go_simp)
    refine Cf 10 33 (C Y 0) Z (λd f=>?y10) a ?_
    case y10=>(have v:=Rq f.2.2.im Mz underlying178 (N6 F);rw[AE P]at v;go_simp)
    refine Ca 11 34 (Ah AP) a ?_;refine Ca 12 35 (Ah AP) a ?_;refine CG ?_;go_simp;have m:=G (s.next (Cq _ _).drew);have y:D ((World.drew V1).heap[M]?=H (Aj #[C Y 3,Ae ⟨Aw key⟩] 254)):=AE B;clear a s B;generalize World.drew V1=V2 at *;have d2:=m.but.cellA Q R c2;have ba:=m.names.len underlying178;have aw:O c<=8*16:=by grind [D]
    obtain⟨ai,hv⟩:=IX (2+O c);have am:D (wrap64 (2+(O c:J))=(ai:J)):=by grind [D,iS]
    have al:=G hv;clear hv aw;go_wp2;rw[AE am];have ab:=G (m.next (Cq _ _).drew);obtain⟨w7,ah,ad,r⟩:=zm ab.names underlying178 (by grind [D]) F e;rw[<-AE al]at ah;have ac:D (LJ W lm (c++[key]) w7):=⟨ab.but.trans ⟨r.os,r.tape,r.output,r.size,λi hi az=>r.block i hi (by simpa using az)⟩,ad⟩
    have q:(λd:X=>A6 d A 2 (.map (H lm))/\A7 d M #[C Y 3,Ae ⟨Aw key⟩] 254) {V2 with drawn:=V2.drawn+1}:=⟨d2,y⟩
    have aq:(λd:X=>A6 d A 2 (.map (H lm))/\A7 d M #[C Y 3,Ae ⟨Aw key⟩] 254) w7:=⟨ac.but.cellA Q R c2,(r.block M (Cc y) (by grind [D])).trans y⟩
    clear ad r m y;refine Ef (S:=λd=>A6 d A 2 (.map (H lm))/\A7 d M #[C Y 3,Ae ⟨Aw key⟩] 254) B6 ?_;refine Ca 0 42 (A8 A) q ?_;refine Ca 1 43 (A8 A) q ?_;refine Ca 2 44 (A9 A 2) q ?_;refine Cf 3 45 (.map (H lm)) Z (λd f=>?y3) q ?_
    case y3=>(have o:=f.1;go_simp)
    refine Ca 4 46 (A9 M 1) q ?_;refine Cf 5 47 (Ae ⟨Aw key⟩) Z (λd f=>?y5) q ?_
    case y5=>(have o:=Cb f.2 1;go_simp)
    refine Ca 6 48 (C Y ai) q ?_;refine CC 7 (λa6 hK=>?_);go_simp;refine hK.out _ _ aq (λ_=>?_);clear hK;refine CG ?_;go_simp;clear ah;go_wp2;go_roundg u
    case measure=>omega
    case rel=>exact⟨j+1,c++[key],Bb,B9,ac,by grind [D],by grind [D]⟩
   have a8:((n:J)==3)=AQ:=B7;have aa:D (GJ c (n,key)=c):=Ci (λh=>ag h.1);refine Ca 0 23 (A8 M) a ?_;refine Cf 1 24 (C Y n) Z (λd f=>?y1) a ?_
   case y1=>(have o:=Cb f.2.1 0;go_simp)
   refine Cf 2 25 (Ah AQ) Z (λd f=>?y2) a ?_
   case y2=>(go_simp)
   refine Ca 3 26 (Ah AQ) a ?_;refine ND 4 27 Z B6 (λ_ _ _ h=>h) a ?_;refine ND 5 28 Z B6 (λ_ _ _ h=>h) a ?_;refine ND 6 29 Z B6 (λ_ _ _ h=>h) a ?_;refine ND 7 30 Z B6 (λ_ _ _ h=>h) a ?_;refine ND 8 31 Z B6 (λ_ _ _ h=>h) a ?_;refine ND 9 32 Z B6 (λ_ _ _ h=>h) a ?_;refine ND 10 33 Z B6 (λ_ _ _ h=>h) a ?_;refine ND 11 34 Z B6 (λ_ _ _ h=>h) a ?_;refine Ca 12 35 (Ah AQ) a ?_;refine CG ?_;go_simp;have m:=G (s.next (Cq _ _).drew);go_wp2;go_roundg u
   case measure=>omega
   case rel=>exact⟨j+1,c,Bb,B9,m,by grind [D],by grind [D]⟩
def MC(ks:AJ A1)(s:AH×A1)(x:AH):AK:=if s.1=0 then AP else if s.1=1 then AQ else if s.1=2 then x==1 else x==(FB ks (.string s.2)).getD 0
def gB(rs:AJ (AJ (AH×A1)×AI×AI))(r p:AH)(f:AH×A1->AK):AK:=match rs[r]? with
 |some R=>(match R.1[p]? with|some s=>f s|none=>AQ)
 |none=>AQ
theorem zu{s:I×A1}(a:rs[r]?=H R)(b:R.1[p]?=H s)(f:I×A1->AK):gB rs r p f=f s:=by grind [gB]
theorem iT(a:rs[r]?=H R)(b:O R.1<=p)(f:I×A1->AK):gB rs r p f=AQ:=by grind [gB]
theorem iU(a:O rs<=r)(p:I)(f:I×A1->AK):gB rs r p f=AQ:=by grind [gB]
structure ID(rs:List (List (Nat×A1)×Int×Int))(ks:List A1)(i j:Nat)(st:Nat->Nat)(tk:Nat->Nat->Nat):Prop where
 s:∀r p,(st r).testBit p=(decide (r<i\/(r=i/\p<j))&&gB rs r p (λs=>s.1==1))
 t:∀x r p,(tk x r).testBit p=(decide (r<i\/(r=i/\p<j))&&gB rs r p (λs=>MC ks s x))
theorem zx:ID rs ks 0 0 (λ_=>0) (λ_ _=>0) :=
 ⟨λr p=>Ba,λx r p=>Ba⟩
def Gq(st:AH->AH)(i j:AH)(b:AK):AH->AH:=λr=>if r=i/\b=AP then st r|||2^j else st r
theorem iV{f:I×A1->AK}{s:I×A1}(a:rs[i]?=H R)(b:R.1[j]?=H s)(h:∀r p,(st r).testBit p=(AR (r<i\/(r=i/\p<j))&&gB rs r p f))(r p:I):(Gq st i j (f s) r).testBit p=(AR (r<i\/(r=i/\p<j+1))&&gB rs r p f):=by grind [Gq,zu]
theorem ID.place{tk:I->I->I}{s:I×A1}(h:ID rs ks i j st tk)(a:rs[i]?=H R)(b:R.1[j]?=H s):ID rs ks i (j+1) (Gq st i j (s.1==1)) (λx=>Gq (tk x) i j (MC ks s x)) :=
 ⟨λr p=>iV a b h.s r p,λx r p=>iV a b (h.t x) r p⟩
theorem ID.rule{tk:I->I->I}(h:ID rs ks i j st tk)(a:rs[i]?=H R)(b:O R.1<=j):ID rs ks (i+1) 0 st tk:=by
 have key:∀(f:I×A1->AK) (r p:I),(AR (r<i\/(r=i/\p<j))&&gB rs r p f)=(AR (r<i+1\/(r=i+1/\p<0))&&gB rs r p f):=by grind [iT]
 exact⟨λr p=>(h.s r p).trans (key _ r p),λx r p=>(h.t x r p).trans (key _ r p)⟩
structure LK(rs:List (List (Nat×A1)×Int×Int))(ks:List A1)(st:Nat->Nat)(tk:Nat->Nat->Nat):Prop where
 s:∀r p,(st r).testBit p=gB rs r p (λs=>s.1==1)
 t:∀x r p,(tk x r).testBit p=gB rs r p (λs=>MC ks s x)
theorem ID.done{tk:I->I->I}(h:ID rs ks i 0 st tk)(hi:O rs<=i):LK rs ks st tk:=by
 have key:∀(f:I×A1->AK) (r p:I),(AR (r<i\/(r=i/\p<0))&&gB rs r p f)=gB rs r p f:=by grind [iU]
 exact⟨λr p=>(h.s r p).trans (key _ r p),λx r p=>(h.t x r p).trans (key _ r p)⟩
theorem TY(h:∀p,8<=p->x.testBit p=AQ):x<256:=Nat.lt_pow_two_of_testBit (n:=8) x (λp a=>h p a)
theorem TZ(b:∀i (h:i<O rs),rs[i].1.length<=8)(c:8<=p)(f:I×A1->AK):gB rs r p f=AQ:=by
 by_cases a:r<O rs
 .exact iT (D3 a) (Cy (b r a) c) f
 grind [iU]
theorem ID.lt{tk:I->I->I}(h:ID rs ks i j st tk)(b:∀i (h:i<O rs),rs[i].1.length<=8):(∀r,st r<256)/\∀x r,tk x r<256 :=
 ⟨λr=>TY λp a=>by rw[h.s,TZ b a];simp,λx r=>TY λp a=>by rw[h.t,TZ b a];simp⟩
def Ia(q:D5)(st:AH->AH)(tv sv:Aq):A3:=#[Ac q.ra (At q.rs) q.rc,Ab Al q.dflt,.map (An q.lm)]++Cw st++#[tv,sv,.map (An q.nb),.map (An q.mb)]
theorem zy(q:D5)(a:Aq):Rr q a=Ia q q.st (T (Aa q.tb) q.L q.tc) a:=B6
theorem zA(q:D5)(st:I->I)(c a b:Aq):Ay (Ia q st c a) 19 b=Ia q st b a:=B6
theorem zB(st:I->I){v:I}(a:r<16):Ay (Ia q st tv sv) (3+r) (C .u16 v)=Ia q (λi=>if i=r then v else st i) tv sv:=by have h:=congrArg Array.toList (Ty st r v);rw[Q8]at h;apply P7;unfold Ia;rw[Q8];simp only[Qe];grind [Mp]
theorem zC(a:r<16):(Ia q st tv sv)[3+r]?=H (C .u16 (st r)):=by have b:=Mp st;unfold Ia;rw[Yz B7,MM Ba];grind [L6]
structure RE(cur:A3)(L:Nat)(tk:Nat->Nat->Nat):Prop where
 size:cur.size=L*16
 at_:∀x r,x<L->r<16->cur[x*16+r]?=some (.int .u16 (tk x r))
theorem RE.set{tk:I->I->I}(h:RE cur L tk)(x r v:I)(hx:x<L)(c:r<16):RE (Ay cur (x*16+r) (C .u16 v)) L (λy i=>if y=x/\i=r then v else tk y i):=by
 refine⟨by rw[YB,h.size],λy i b a=>?_⟩;rw[RS];by_cases e:y=x/\i=r
 .rw[Cn (by rw[e.1,e.2]),Cn (by rw[h.size];omega),Cn e]
 rw[Ci E,Ci e];exact h.at_ y i b a
structure DE(W:World)(A tb L:Nat)(q:D5)(sv:Value)(st:Nat->Nat)(tk:Nat->Nat->Nat)(V:World):Prop where
 row:V.heap[A]?=some (.cells (Ia q st (.slice (Aa tb) L L) sv) 187)
 tks:∃cur,V.heap[tb]?=some (.cells cur 183)/\RE cur L tk
 os:V.os=W.os
 tape:V.tape=W.tape
 output:V.output=W.output
 size:W.heap.size<=V.heap.size
 block:∀k,k<W.heap.size->k≠A->V.heap[k]?=W.heap[k]?
theorem DE.next{tk:I->I->I}(h:DE W A tb L q sv st tk V)(hb:A0 V V'):DE W A tb L q sv st tk V':=by obtain⟨c,b,e⟩:=h.tks;exact⟨(hb.block _ (Cc h.row)).trans h.row,⟨c,(hb.block _ (Cc b)).trans b,e⟩,hb.os.trans h.os,hb.tape.trans h.tape,hb.output.trans h.output,Cy h.size hb.size,λk a d=>(hb.block k (CK a h.size)).trans (h.block k a d)⟩
theorem iW(V:X)(p:Addr)(v:Aq):K (U (V.drew.setCell p v))=K (U V):=Br
theorem DE.stays{tk:I->I->I}(h:DE W A tb L q sv st tk V)(e:A≠tb)(r v:I)(f:r<16):DE W A tb L q sv (λi=>if i=r then v else st i) tk (V.drew.setCell ⟨A,3+r,Ao⟩ (C .u16 v)):=by obtain⟨c,g,j⟩:=h.tks;have a:=DQ V.drew A (3+r) _ _ (C .u16 v) h.row;rw[zB st f]at a;refine⟨a,⟨c,(G9 V.drew _ _ _ (by simpa using e.symm)).trans g,j⟩,h.os,h.tape,h.output,by rw[iW];exact h.size,λk d b=>(G9 V.drew _ _ _ BB).trans (h.block k d b)⟩
theorem DE.took{tk:I->I->I}(h:DE W A tb L q sv st tk V)(c:A≠tb)(j:K (U W)<=tb)(x r v:I)(hx:x<L)(d:r<16):DE W A tb L q sv st (λy i=>if y=x/\i=r then v else tk y i) (V.drew.setCell ⟨tb,x*16+r,Ao⟩ (C .u16 v)):=by obtain⟨g,e,f⟩:=h.tks;exact⟨(G9 V.drew _ _ _ BP).trans h.row,⟨_,DQ V.drew tb (x*16+r) _ _ (C .u16 v) e,f.set x r v hx d⟩,h.os,h.tape,h.output,by grind [iW],λk a b=>(G9 V.drew _ _ _ B7).trans (h.block k a b)⟩
theorem XJ:(Ia q st tv sv)[2]?=H (.map (H q.lm)):=B6
theorem iX:(Ia q st tv sv)[19]?=H tv:=B6
theorem Tryz.infoPlc:(prog.info? 183).map (λi=>(i.zero,i.size,i.bytes))=H (H (.agg (Cw DT)),16,32):=B6
theorem zD(h:n<=128)(w:X):(Instr.makeSlice 184 (C Y (wrap64 (2+(n:J)))) (C Y (wrap64 (2+(n:J))))).run As w=.ok (T (Aa (K (U w))) (2+n) (2+n)) (Az w (M (madeCells (Cw DT) ((2+n)*16)) 183)):=by obtain⟨i,f,c,a,d⟩:=DD Tryz.infoPlc;have e:((2+n:I):J).toNat=2+n:=NV _;have b:=run_makeSlice (P:=As) (w:=w) 184 183 i (.agg (Cw DT)) underlying184 f c Y Y ((2+n:I):J) ((2+n:I):J) E (P6 _) (by rw[e,a];omega) (by rw[d];omega) E;rw[e,a]at b;rw[iS h];exact b
theorem zE:RE (madeCells (Cw DT) (L*16)) L (λ_ _=>0):=by refine⟨size_madeCells _ _,λx r b a=>?_⟩;grind [DT,Cw,Mp,madeCells]
theorem zG(b:A7 W A (Ia q (λ_=>0) (T Ao 0 0) sv) 187):DE W A (K (U W)) L q sv (λ_=>0) (λ_ _=>0) ((Az W (M (madeCells (Cw DT) (L*16)) 183)).setCell ⟨A,19,Ao⟩ (T (Aa (K (U W))) L L)):=by have e:=Cc b;have a:=DQ (Az W (M (madeCells (Cw DT) (L*16)) 183)) A 19 _ _ (T (Aa (K (U W))) L L) ((Cx W _ A e).trans b);rw[zA]at a;refine⟨a,⟨_,(G9 _ _ _ _ B7).trans (Cj W),zE⟩,Z,Z,Z,?_,λk c d=>(G9 _ _ _ _ BX).trans (Cx W _ k c)⟩;grind [World.setCell,World.size_alloc]
theorem XK:(Ia q st tv sv)[0]?=H (T q.ra (O q.rs) q.rc):=B6
theorem DE.low{tk:I->I->I}(h:DE W A tb L q sv st tk V)(a:A0 W0 W)(c:K (U W0)<=A):A0 W0 V :=
 ⟨h.os.trans a.os,h.tape.trans a.tape,h.output.trans a.output,Cy a.size h.size,λi b=>(h.block i (CK b a.size) E).trans (a.block i b)⟩
theorem DE.names{tk:I->I->I}(h:DE W A tb L q sv st tk V)(b:Hj W lm ks)(d:A≠lm):Hj V lm ks :=
 b.kept (row:=H A) ⟨h.os,h.tape,h.output,h.size,λi a c=>h.block i a BP⟩ (by simpa using d.symm)
theorem DE.c2{tk:I->I->I}(h:DE W A tb L q sv st tk V):A6 V A 2 (.map (H q.lm)):=(IJ V A 2 _ _ _ h.row).trans (XJ)
theorem DE.c19{tk:I->I->I}(h:DE W A tb L q sv st tk V):A6 V A 19 (T (Aa tb) L L):=(IJ V A 19 _ _ _ h.row).trans (iX)
theorem DE.cs{tk:I->I->I}(h:DE W A tb L q sv st tk V)(r:I)(a:r<16):A6 V A (3+r) (C .u16 (st r))/\V.frozen? ⟨A,3+r,Ao⟩=AQ :=
 ⟨(IJ V A (3+r) _ _ _ h.row).trans (zC a),Dq V A (3+r) _ _ h.row⟩
theorem DE.ct{tk:I->I->I}(h:DE W A tb L q sv st tk V)(x r:I)(hx:x<L)(c:r<16):A6 V tb (x*16+r) (C .u16 (tk x r))/\V.frozen? ⟨tb,x*16+r,Ao⟩=AQ:=by obtain⟨d,a,b⟩:=h.tks;exact⟨(IJ V tb (x*16+r) _ _ _ a).trans (b.at_ x r hx c),Dq V tb (x*16+r) _ _ a⟩
theorem zI(st:I->I)(k j:I):(λi=>if i=k then st k|||2^j else st i)=Gq st k j AP:=by grind [Gq]
theorem U0(st:I->I):Gq st k j AQ=st:=by grind [Gq]
theorem DE.alike{tk tk':I->I->I}(h:DE W A tb L q sv st tk V)(e:∀x r,x<L->tk' x r=tk x r):DE W A tb L q sv st tk' V:=by obtain⟨a,b,c,d⟩:=h.tks;exact⟨h.row,⟨a,b,c,λx r g f=>B9⟩,h.os,h.tape,h.output,h.size,h.block⟩
def L8(tk:AH->AH->AH)(x k j:AH):AH->AH->AH:=λy i=>if y=x/\i=k then tk x k|||2^j else tk y i
theorem DE.one{tk:I->I->I}(h:DE W A tb L q sv st tk V)(b:A≠tb)(c:K (U W)<=tb)(x k j:I)(hx:x<L)(a:k<16):DE W A tb L q sv st (L8 tk x k j) (V.drew.setCell ⟨tb,x*16+k,Ao⟩ (C .u16 ((tk x k|||2^j:I):J))):=h.took b c x k (tk x k|||2^j) hx a
def MD(tk:AH->AH->AH)(m k j:AH):AH->AH->AH:=λy=>if y<m then Gq (tk y) k j AP else tk y
theorem zJ(tk:I->I->I)(k j:I):MD tk 0 k j=tk:=by grind [MD]
theorem zK(tk:I->I->I)(m k j:I):L8 (MD tk m k j) m k j=MD tk (m+1) k j:=by funext y i;unfold L8 MD;grind [Gq]
theorem iY(tk:I->I->I)(x:I){y:I}:L8 tk x k j y=Gq (tk y) k j (y==x):=by grind [L8,Gq]
def DC(dflt:AI):AJ (AJ (AH×A1)×AI×AI)->AJ (A1×AK)->AI×AI
 |[],_=>(dflt,1)
 |x::rs,p=>if Nu x.1 p then x.2 else DC dflt rs p
def OJ(rs:AJ (AJ (AH×A1)×AI×AI))(p:AJ (A1×AK))(Y:AH->AH):Prop:=∀r (h:r<At rs),∀k,(Y r).testBit k=LF rs[r].1 p k
theorem XM{st:I}{P:I->AK}(a:∀k,st.testBit k=I7 ss k)(hx:∀k,x.testBit k=P k):∀k,Ko st x k=Mo ss P k
 |0=>hx 0
 |k+1=>by rw[Ko,Mo,hx,a,XM a hx k]
theorem zO{st tk:I}{t:A1×AK}{P:I->AK}(a:∀k,st.testBit k=I7 ss k)(b:∀k,tk.testBit k=Oy ss t k)(hx:∀k,x.testBit k=P k)(k:I):(Ms st tk x).testBit k=PM ss t P k:=by unfold Ms;rw[Nat.testBit_or,Nat.testBit_and,Nat.testBit_shiftLeft,Nat.testBit_and,hx,a];cases k<;>grind [PM]
theorem iZ(h:r<O rs)(k:I):gB rs r k (λs=>s.1==1)=I7 rs[r].1 k:=by grind [gB,I7]
theorem zP{a:A1}(d:a∈ks)(hb:b∈ks)(e:ks.idxOf a=ks.idxOf b):a=b:=by have c:=Ur.2 d;have g:=Ur.2 hb;have f:=List.getElem_idxOf c;grind
theorem zQ{s:I×A1}(h:s.1=3->s.2∈ks)(d:s.1<=3)(key:A1)(a:AK):MC ks s (Ks (FB ks) key a)=I6 s (key,a):=by
 unfold MC I6;split
 .rfl
 split
 .rfl
 split
 .cases a
  .show(((FB ks (.string key)).getD 0)==1)=AQ;by_cases b:key∈ks<;>grind [NB,PV]
  rfl
 have c:=h E;rw[NB c];cases a
 .show(((FB ks (.string key)).getD 0)==2+ks.idxOf s.2)=(!AQ&&key==s.2)
  by_cases b:key∈ks<;>grind [NB,zP,PV]
 show((1:I)==2+ks.idxOf s.2)=AQ;simp;omega
theorem zR:Ks (FB ks) key ix<2+O ks:=by grind [Ks,NB,PV]
theorem zS(h:r<O rs)(b:∀s∈rs[r].1,s.1<=3/\(s.1=3->s.2∈ks))(key:A1)(a:AK):gB rs r k (λs=>MC ks s (Ks (FB ks) key a))=Oy rs[r].1 (key,a) k:=by grind [gB,Oy,zQ]
theorem zU{tk:I->I->I}(b:LK rs ks st tk){Y:I->I}(a:PP (O rs) st (one (O rs)) Y):OJ rs [] Y:=by
 intro r h k;rw[a.1 r h k];have c:=λk=>(b.s r k).trans (iZ h k);have d:∀k,(one (O rs) r).testBit k=(k==0):=by intro k;unfold one;rw[Cn h];cases k<;>grind
 rw[XM c d k];rfl
theorem zV{tk:I->I->I}(a:LK rs ks st tk)(c:∀r (h:r<O rs),∀s∈rs[r].1,s.1<=3/\(s.1=3->s.2∈ks)){P Y:I->I}{p:AJ (A1×AK)}(d:OJ rs p P)(e:PP (O rs) st (I8 st (tk (Ks (FB ks) key ix)) P (O rs)) Y):OJ rs ((key,ix)::p) Y:=by
 intro r h k;rw[e.1 r h k];have b:=λk=>(a.s r k).trans (iZ h k);have f:=λk=>(a.t _ r k).trans (zS h (c r h) key ix);have g:∀k,(I8 st (tk (Ks (FB ks) key ix)) P (O rs) r).testBit k=PM rs[r].1 (key,ix) (LF rs[r].1 p) k:=by intro k;unfold I8;rw[Cn h];exact zO b f (d r h) k
 rw[XM b g k];rfl
theorem j0{p:AJ (A1×AK)}{X Y:I->I}(h:OJ rs p Y)(c:O rs<=16)(a:∀r,r<16->X r=Y r):OJ rs p X:=by intro r b k;rw[a r E];exact h r b k
theorem j2{dflt:J}{p:AJ (A1×AK)}(a:I->I):∀(rs:AJ (AJ (I×A1)×J×J)) (o:I),(∀r (h:r<O rs),∀k,(a (o+r)).testBit k=LF rs[r].1 p.reverse k)->Eu dflt rs a o=DC dflt rs p
 |[],_,_=>rfl
 |x::rs,o,h=>by have b:=h 0 Ba (O x.1);rw[Eu,DC];have e:(a o).testBit (O x.1)=Nu x.1 p:=b.trans (vx);rw[e,j2 a rs (o+1) (λr c k=>by have:=h (r+1) BP k;rw[show o+1+r=o+(r+1) by omega,this];rfl)]
theorem zW{p:AJ (A1×AK)}{Y:I->I}(h:OJ rs p.reverse Y)(dflt:J):Eu dflt rs Y 0=DC dflt rs p :=
 j2 Y rs 0 (λr a k=>by rw[Gw];exact h r a k)
theorem zX{s:I×A1}(h:b∈ks):b∈GJ ks s:=by grind [GJ]
theorem XN:∀(ss:AJ (I×A1)) (ks:AJ A1),b∈ks->b∈ss.foldl GJ ks
 |[],_,h=>h
 |_::ss,_,h=>XN ss _ (zX h)
theorem j4:∀(ss:AJ (I×A1)) (ks:AJ A1) (s:I×A1),s∈ss->s.1=3->s.2∈ss.foldl GJ ks
 |x::ss,ks,s,b,h3=>by
  rcases If.1 b with rfl|b
  .refine XN ss _ ?_;unfold GJ;by_cases a:s.2∈ks
   .rw[Ci (λh=>h.2 a)];exact a
   rw[Cn ⟨h3,a⟩];simp
  exact j4 ss _ s b h3
theorem j5:∀(rs:AJ (AJ (I×A1)×J×J)) (ks:AJ A1),b∈ks->b∈rs.foldl NC ks
 |[],_,h=>h
 |r::rs,_,h=>j5 rs _ (XN r.1 _ h)
theorem j6:∀(rs:AJ (AJ (I×A1)×J×J)) (ks:AJ A1) (r:AJ (I×A1)×J×J),r∈rs->∀s∈r.1,s.1=3->s.2∈rs.foldl NC ks
 |x::rs,ks,r,a,s,hs,h3=>by
  rcases If.1 a with rfl|a
  .exact j5 rs _ (j4 r.1 ks s hs h3)
  exact j6 rs _ r a s hs h3
theorem j7(h:i<O rs)(a:j<rs[i].1.length)(b:rs[i].1[j].1=3):rs[i].1[j].2∈Gp rs :=
 j6 rs [] rs[i] (P5 h) _ (P5 a) b
theorem j8:∀(rs:AJ (AJ (I×A1)×J×J)) (ks:AJ A1),(∀r∈rs,O r.1<=8)->O (rs.foldl NC ks)<=O ks+8*O rs
 |[],_,_=>Ba
 |r::rs,ks,h=>by have b:=j8 rs (NC ks r) (λx a=>h x (Le _ a));have c:O (NC ks r)<=O ks+O r.1:=iR r.1 ks;have d:=h r Ba;rw[UL,FU];omega
theorem j9(b:O rs<=16)(a:∀i (h:i<O rs),rs[i].1.length<=8):O (Gp rs)<=128:=by grind [j8,List.getElem_of_mem,Gp]
theorem XO:∀(q:AJ A1) (i:I),Jz n q i<0->i<=16->(∀x∈q,De n x=AP)/\i+O q<=16
 |[],i,_,hi=>⟨λx a=>absurd a Ba,keQ⟩
 |x::q,i,h,_=>by
  unfold Jz at h;split at h
  .next hc =>
   obtain⟨b,c⟩:=XO q (i+1) h E;grind
  omega
theorem qtR(h:EY l=AP):O (EM l)<=8:=by grind [EY,EM]
theorem quj{s:A1}(h:s∈EM l):O s<=O l:=by
 unfold EM at h;split at h
 .cases h
 exact OC 47 l s h
theorem qwp(h:De n l=AP):(D6 l).1.length<=8/\∀s∈(D6 l).1,O s<=O l:=by
 have b:=iL h;have c:=XG b;have a:Ny n [(Lib.cut l [32]).1,(Lib.cut (Lib.cut l [32]).2.1 [32]).1,(Lib.cut (Lib.cut l [32]).2.1 [32]).2.1]=AP:=by rw[<-b];exact h
 unfold Ny at a;rw[F3]at a;rw[c];have e:(Lib.cut l [32]).1.length<=O l:=OC 32 l _ (by rw[b];simp);exact⟨qtR a.1,λs d=>Cy (quj d) e⟩
theorem jd(h:F1 n l=0):O (EN l)<=16/\∀r∈EN l,O r.1<=8/\∀s∈r.1,O s<=2000:=by
 have a:DU n l<0:=kfh;unfold DU at a;unfold EN;split at a
 .omega
 next hb =>
 split at a
 .grind
 next h0 =>
 rw[Ci h0];obtain⟨c,i⟩:=XO (D0 10 l) 0 a E;refine⟨B9,λr d=>?_⟩;obtain⟨x,b,rfl⟩:=KI.1 d;obtain⟨f,g⟩:=qwp (c x b);refine⟨f,λs e=>?_⟩;have:=g s e;have:=OC 10 l x b;omega
theorem XP(h:F1 n l=0):O ((EN l).map DX)<=16/\(∀i (h:i<O ((EN l).map DX)),((EN l).map DX)[i].1.length<=8)/\∀i (h:i<O ((EN l).map DX)) j (h2:j<((EN l).map DX)[i].1.length),((EN l).map DX)[i].1[j].1<=3/\((EN l).map DX)[i].1[j].2.length<=1000000000:=by grind [jd,Dw,DX]
theorem qsQ(p q:Addr):CallsD As 79 #[.pointer (H p),.pointer (H q)] .returning w λe c d=>e=Ak (Af #[])/\c=.returning/\d=w:=by refine callsD_of_wpS func79 rfl λa cs b=>?_;simp only[ntmps79,KC,FU,Je,Nat.reduceAdd,Nat.reduceSub,NQ,NR,NU,NS,KG,Lf];apply wpS_seq;apply wpS_region;simp[wpOpsS,go_sem,recoverD,b,Exit.thenS];refine wpS_of_wp ?_;go_wp2;cases a;simp_all[bodyPostS,results,results79]
theorem qsH{q:I}(a b:J){x y:J}{w:Ap}(c:A6 w p 0 (C Y x))(d:A6 w q 0 (C Y y))(j:w.frozen? ⟨p,0,Ao⟩=AQ)(l:w.frozen? ⟨q,0,Ao⟩=AQ)(n:p≠q):CallsD As 79 #[A8 p,A8 q] (.panicking [{v:=Sf a b,recovered:=AQ}]) w λe u g=>e=Ak (Af #[])/\u=.panicking [{v:=Sf a b,recovered:=AP}] /\
   (A6 g p 0 (C Y a)/\A6 g q 0 (C Y b)/\∀B,B<=p->B<=q->B<=K (U w)->Below B w g):=by
 refine callsD_of_wpS func79 rfl λN cs o=>?_;simp only[ntmps79,KC,FU,Je,Nat.reduceAdd,Nat.reduceSub,NQ,NR,NU,NS,KG,Lf];apply wpS_seq;apply wpS_region;simp[wpOpsS,go_sem,recoverD,o,Exit.thenS,Sf];refine wpS_of_wp ?_;have aa:∀w:Ap,(Instr.typeAssert (Ai 163 (Ag #[C Y a,C Y b])) 20 163 AP).run As w=.ok (Af #[Ag #[C Y a,C Y b],Ah AP]) w:=λw=>B6;go_wp2;have S:K (U w)≠p/\K (U w)≠q:=⟨by have h:p<K (U w):=FF c;omega,by have h:q<K (U w):=FF d;omega⟩
 have z:(Az w (M #[C Y a,C Y b] 163)).cell? ⟨p,0,Ao⟩=H (C Y x):=(IV w _ _ keW).trans c;have A:(Az w (M #[C Y a,C Y b] 163)).cell? ⟨q,0,Ao⟩=H (C Y y):=(IV w _ _ (by rw[d];rfl)).trans d;have f:A0 w (Az w (M #[C Y a,C Y b] 163)):=Cl;have P:=(f.frozen (p:=⟨p,0,Ao⟩) (FF c)).trans j;have Q:=(f.frozen (p:=⟨q,0,Ao⟩) (FF d)).trans l;have F:(Az w (M #[C Y a,C Y b] 163)).cell? ⟨K (U w),0,Ao⟩=H (C Y a):=Cb (Cj _) 0;have L:(Az w (M #[C Y a,C Y b] 163)).cell? ⟨K (U w),1,Ao⟩=H (C Y b):=Cb (Cj _) 1;have i:=G f;have k:q≠p:=λe=>n e.symm;generalize Az w (M #[C Y a,C Y b] 163)=V at *
 go_region
 have r:(AB (AB V ⟨p,0,Ao⟩ (C Y a)) ⟨q,0,Ao⟩ (C Y b)).drew.cell? ⟨p,0,Ao⟩=H (C Y a):=by show(AB (AB V ⟨p,0,Ao⟩ (C Y a)) ⟨q,0,Ao⟩ (C Y b)).cell? ⟨p,0,Ao⟩=_;grind [World.cell?_of_block,heap_setCell_other,World.cell?_setCell_same']
 have s:(AB (AB V ⟨p,0,Ao⟩ (C Y a)) ⟨q,0,Ao⟩ (C Y b)).drew.cell? ⟨q,0,Ao⟩=H (C Y b):=by show(AB (AB V ⟨p,0,Ao⟩ (C Y a)) ⟨q,0,Ao⟩ (C Y b)).cell? ⟨q,0,Ao⟩=_;grind [World.cell?_setCell_same',World.cell?_of_block,heap_setCell_other]
 have t:∀B,B<=p->B<=q->B<=K (U w)->Below B w (AB (AB V ⟨p,0,Ao⟩ (C Y a)) ⟨q,0,Ao⟩ (C Y b)).drew:=λB h R m =>
  (i.mono m).trans ⟨rfl,rfl,rfl,Br,λab W=>(CY _ _ _ _ B7).trans (CY V _ _ _ B7)⟩
 generalize(AB (AB V ⟨p,0,Ao⟩ (C Y a)) ⟨q,0,Ao⟩ (C Y b)).drew=X at *;exact⟨Z,_,Z,_,results_none Z _ _ _,Z,Z,r,s,t⟩
theorem Ck.mono{b b':I}(h:Ck W b v bs)(hb:b'<=b):Ck W b' v bs:=by
 obtain⟨⟨f,a⟩,k,i⟩:=h;refine⟨⟨f,?_⟩,E,i⟩;rcases a with a|⟨g,c,d,e,l,j⟩
 .exact .inl a
 exact .inr ⟨g,c,d,e,E,j⟩
theorem quZ{fout:J}{ys:A1}(j:(fout==1)=AQ)(c:Ar As 82 #[C Y fout,Ai t y] V λe a=>∃b,e=Ak b/\Ck a (K (U V)) b ys/\A0 V a):Ar As 44 #[C Y fout,Ai t y] V λe a=>∃b,e=Ak (Af #[b,C Y 0])/\Ck a (K (U V)) b ys/\A0 V a:=by
 go_enter func44,ntmps44
 go_wp2_with(first
  |(go_at_call 82;refine c.mono ?_;rintro e n ⟨m,rfl,d,h⟩;obtain⟨f,g,i,l,k,rfl⟩:=d))
 go_ret2
 exact⟨_,Z,⟨f,g,_,_,_,Z⟩,h⟩
theorem qtc{ys:A1}(g:Ar As 81 #[Ai t y] V λe f=>e=Ak (Ah AQ)/\A0 V f)(h:∀c,A0 V c->Ar As 82 #[C Y 1,Ai t y] c λe a=>∃b,e=Ak b/\Ck a (K (U V)) b ys/\Below (K (U V)) c a):Ar As 44 #[C Y 1,Ai t y] V λe a=>∃b,e=Ak (Af #[b,C Y 0])/\Ck a (K (U V)) b ys/\A0 V a:=by
 go_enter func44,ntmps44
 go_wp2_with(first
  |(go_at_call 81;refine g.mono ?_;rintro e n ⟨rfl,d⟩;have i:=h n d)
  |(go_at_call 82;refine i.mono ?_;rintro e s ⟨r,rfl,j,m⟩;obtain⟨k,l,o,q,p,rfl⟩:=j))
 go_ret2
 exact⟨_,Z,⟨k,l,_,_,_,Z⟩,d.trans m⟩
theorem qrY(c:Ar As 81 #[Ai t y] V λe b=>e=Ak (Ah AP)/\A0 V b):Ar As 44 #[C Y 1,Ai t y] V λe a=>e=Ak (Af #[T Ao 0 0,C Y 13])/\A0 V a:=by
 go_enter func44,ntmps44
 go_wp2_with(first
  |(go_at_call 81;refine c.mono ?_;rintro e f ⟨rfl,d⟩))
 go_ret2
 exact⟨Z,d⟩
def Hl(L:AJ (A1×AK)):AJ Aq:=L.flatMap λe=>[Ae ⟨Aw e.1⟩,Ah e.2]
theorem jD(L:AJ (A1×AK)):O (Hl L)=O L*2:=by induction L<;>grind [Hl]
theorem Y3:∀(L:AJ (A1×AK)) (i:I) (h:i<O L),(Hl L)[i*2]?=H (Ae ⟨L[i].1.toArray⟩)/\(Hl L)[i*2+1]?=H (Ah L[i].2)
 |[],i,h=>Bx
 |e::L,0,_=>⟨rfl,rfl⟩
 |e::L,i+1,h=>by have a:=Y3 L i Bw;grind [Hl]
theorem qis(A B:AJ (A1×AK)):Hl (A++B)=Hl A++Hl B:=by simp[Hl]
theorem jE{L:AJ (A1×AK)}:∀v,v∈Hl L->v.oneCell'=AP:=by intro v b;simp only[Hl,YY]at b;obtain⟨e,_,a⟩:=b;simp only[If,LT,LY]at a;rcases a with rfl|rfl<;>rfl
theorem qvR{ea:A4}{L:AJ (A1×AK)}(h:JH W ea L):∀a,ea=H a->∀j v,(Hl L)[j]?=H v->AC W (a.add j)=H v:=by intro a d j v e;have f:=(NM.1 e).1;rw[jD]at f;obtain⟨b,off,c,_,i,k⟩:=h.at_ (j/2) E;rw[d]at c;cases c;rw[KP];have g:=Y3 L (j/2) E;grind
end
end Go.Proofs.YtihfjkjbfaneeaaGreatDoor
