import Derived.Test.YtoegnhgofkhbnaaGreatDoorHq27
import Derived.Test.YtoegnhgofkhbnaaGreatDoorHq29
set_option maxRecDepth 100000
set_option maxHeartbeats 8000000
set_option linter.all false
namespace Go.Proofs.YtoegnhgofkhbnaaGreatDoor
open Go.Proofs.Tryz
open Go.Value renaming int->A7,slice->A8,string->Aa
open Go.Obj renaming cells->Af
open Go.IntKind renaming i64->Ah
open Option renaming some->Aj,none->Ak
open Go renaming World->Al,Calls->An
open Go.Proofs.Tryz renaming prog->Ao
variable{V W w:Al}{g last p:Nat}{bs:A2}{l lim:Int}{A a b f y:A4}{kv u:Value}{o:Obj}{c:UInt8}
section
open Go.RowKit Go.Lib
theorem YJ(s:A2)(R:AP)(e p:Int){N:Nat}(h:V.heap[N]?=Aj (Af (C4 s R e p) 34)):∀(j:Nat) (u:Value),(AZ R)[j]?=Aj u->V.cell? ⟨N,1+j,Ak⟩=Aj u:=by
 intro j u a;refine(Ar h (1+j)).trans ?_;have b:j<4:=At a
 match j,b,a with
 |0,_,a=>exact a
 |1,_,a=>exact a
 |2,_,a=>exact a
 |3,_,a=>exact a
end
section
open Go.ChangeShapes Go.WideShapes Go.ChangeAt Go.RowKit Go.Lib Go.Deep Go.ChangeMaps
theorem oU:(prog.globals[6]?).map (·.type)=Aj 313:=by kernel_rfl
theorem oV:prog.cellsOf 313=20:=by kernel_rfl
theorem oW:(Rows.laid_internal_strconv_uint64pow10:A3)=tabData .u64 pow10Tab:=by kernel_rfl
def oX:List Int:=[0,1,56,2,57,49,28,3,61,58,42,50,38,29,17,4,62,47,59,36,45,43,51,22,53,39,33,30,24,18,12,5,63,55,48,27,60,41,37,16,46,35,44,21,52,32,23,11,54,26,40,15,34,20,31,10,25,14,19,9,13,8,7,6]
theorem oY:(prog.globals[8]?).map (·.type)=Aj 320:=by kernel_rfl
theorem oZ:prog.cellsOf 320=64:=by kernel_rfl
theorem p8:prog.cellsOf 5=1:=by kernel_rfl
theorem p9:(Rows.laid_math_bits_deBruijn64tab:A3)=tabData .u8 oX:=by kernel_rfl
theorem pb(e:laidMetH Ao Rows.hiddenRow.laid W)(l:W.ShapedOpen Ao):EE W.heap.size W:=by
 have k:laidMet Ao Rows.hiddenRow.laid W:=e;have i:W.cell? ⟨8,15,Ak⟩=Aj (A7 .u8 4)/\9<=W.heap.size:=by
  obtain⟨g,t,cs,m,p,c,j,a,b⟩:=laidMet.reads k (d:=Rows.laid_math_bits_deBruijn64tab) (.tail _ (.head _));obtain rfl:g=8:=CX (c.symm.trans (by kernel_rfl));obtain rfl:=CX (oY.symm.trans j);rw[p9]at b;have f:=cells_of_tab underlying320 underlying5 p8 oZ b;have n:=MZ c a 15;refine⟨?_,?_⟩
  ·rw[n,<-Iw,f];rfl
  unfold World.var? at a;rw[c]at a;simp only[UB]at a;split at a
  ·next h=>exact At h
  cases a
 refine⟨⟨(UW e l).tabs,bO e,i.2⟩,?_,i.1,UW e l,i.2,AB _⟩;refine Lib.tabBelow_of_tabIs ?_;obtain⟨g,t,cs,m,p,c,j,a,b⟩:=laidMet.reads k (d:=Rows.laid_internal_strconv_uint64pow10) (.tail _ (.tail _ (.head _)));obtain rfl:g=6:=CX (c.symm.trans (by kernel_rfl));obtain rfl:=CX (oU.symm.trans j);rw[oW]at b;have f:=cells_of_tab underlying313 underlying241 V8 oV b;have o:W.var? Ao Wv=Aj cs:=by
  refine Eq.trans ?_ a;exact congrArg (λs=>W.var? Ao s) (by kernel_rfl)
 unfold TabIs;rw[o,<-f]
section
variable{H:Type} {enc:TypeId×Value->H} {w:Al}
end
end
section
open Go.RowKit Go.Lib
theorem ro(k:Nat)(W:Al)(bs:A2)(fm d l lim:Int)(i:Nat)(a:Int)(b:Nat)(h o:A5)(n m s q:Nat)(e:Nat->Prop)(kl:List A2)(ds:List (DataW Unit))(x:Lm bs l lim)(hi:AS bs lim i)(A:bs.length<=281474976710656)(D:lim<=200000000)(F:DH k W b (A8 h n m) (A8 o s q) e kl ds)(E:kl.length<=200000000)(z:Nat->Except (Int×Int) (DataW Unit×Nat))(Q:∀p:Nat,(p:Int)=lim->p<bs.length->z p=.error (8,(p:Int)))(M:b<=W.heap.size)(P:∀j,e j->j<W.heap.size)(N:0<=a)(O:a<=100000)(K:∀V (p:Nat),AS bs lim p->An Ao 59 #[.agg (AF bs fm d l),A7 Ah p,A7 Ah (a+1)] V (DA k bs lim V (z p))):An Ao 119 #[.agg (AF bs fm d l),.agg (Ax 7 0 ⟨#[]⟩ (A8 h n m) (A8 o s q)),A7 Ah i,A7 Ah a] W (Lp k bs lim W b (A8 h n m) (A8 o s q) e kl ds (C0 bs lim z (kl.reverse,Fq kl ds) i)):=by
 obtain⟨R,I⟩:∃R,C0 bs lim z (kl.reverse,Fq kl ds) i=R:=⟨_,rfl⟩
 rw[I];rcases r7 x Q hi I with⟨u,g⟩|⟨c,w,u,⟨v,g⟩|⟨v,B,⟨f,y,g⟩|⟨t,r,y,G,Y,⟨C,g⟩|⟨C,J,⟨f,H,g⟩|⟨U,H,S,Z,T,X,L⟩⟩⟩⟩⟩
 ·exact rg k W bs fm d l lim i a b h o n m s q e kl ds R _ u g rfl
 ·exact rh k W bs fm d l lim i a b h o n m s q e kl ds R _ c w v u g rfl
 ·exact ri k W bs fm d l lim i a b h o n m s q e kl ds R f c w v u A D x B y g
 ·exact rj k W bs fm d l lim i a b h o n m s q e kl ds R _ c w v u A D x B F E t r y C rfl (by omega) G.1 g
 ·exact rk k W bs fm d l lim i a b h o n m s q e kl ds R f c w v u A D x B F E t r y C G.1 _ rfl J H g
 exact rn k W bs fm d l lim i a b h o n m s q e kl ds R c w v u A D x B F E t r y C G.1 _ rfl J z M P N O U _ H S.1 rfl T L K
theorem rp{α:Type}{itF:α->Nat->A6 α}{acc:α}{R:A6 α}{f:Int×Int}(h:J7 bs lim itF last g p acc R)(i:Ep bs lim (itF acc p) (.error f))(e:(p:Int)=lim->p<bs.length->itF acc p=.error (8,(p:Int))):R=.error f:=by
 have a:itF acc p=.error f:=by
  rcases i with h|⟨q,_,_,_,x,c⟩
  ·exact h
  cases c
 rcases h.2 with⟨j,_,b⟩|⟨b,d,c⟩
 ·rw[<-b];unfold Kz;rw[a]
 rw[e b d]at a;injection a with a;rw[c,a]
theorem rq{α:Type}(t:Lm bs l lim){itF:α->Nat->A6 α}{q p3:Nat}{acc acc':α}{R:A6 α}(h:J7 bs lim itF last g p acc R)(G:Ep bs lim (itF acc p) (.ok (acc',q)))(u:(p:Int)=lim->p<bs.length->itF acc p=.error (8,(p:Int)))(F:∀x q,itF acc p=.ok (x,q)->p<q)(v:AS bs lim q)(L:bs.length+1<=p+g)(r:p3=CI bs l (bs.length+1-q) q):AS bs lim p3/\((Bo bs l p3=false/\R=.error (BM bs l p3 9))\/∃c,bs[p3]?=Aj c/\Bo bs l p3=true/\((c.toNat=last/\R=.ok (acc',p3+1)/\AS bs lim (p3+1))\/(¬c.toNat=last/\c.toNat=44/\AS bs lim (p3+1)/\∃a,g=a+2/\p<p3/\C8 bs lim itF last (a+1) (p3+1) acc'=R)\/(¬c.toNat=last/\¬c.toNat=44/\R=.error (BM bs l p3 9)))):=by
 rcases G with i|⟨N,d,m,n,x,f⟩
 ·have M:=F acc' q i;rcases h.2 with⟨a,e,o⟩|⟨m,n,f⟩
  ·obtain⟨w,K,j⟩:=Zt t v r i o;refine⟨w,?_⟩;rcases j with j|⟨c,s,y,b⟩
   ·exact .inl j
   refine .inr ⟨c,s,y,?_⟩;rcases b with b|⟨z,c2,A,B⟩|b
   ·exact .inl b
   ·have:=B9 s;obtain⟨k,rfl⟩:∃k,a=k+1:=⟨a-1,by omega⟩
    exact .inr (.inl ⟨z,c2,A,k,by omega,by omega,B⟩)
   exact .inr (.inr b)
  rw[u m n]at i;cases i
 injection f with f;injection f with h5 h6;subst h6;obtain⟨C,D,E⟩:=Zu t m n;rw[C]at r;subst r;refine⟨v,.inl ⟨D,?_⟩⟩;rw[E];rcases h.2 with⟨a,_,o⟩|⟨H,I,J⟩
 ·rw[<-o];unfold Kz;rw[d]
 rw[u H I]at d;injection d with d;rw[J,d]
theorem ZC{rd:Nat->Except (Int×Int) (DataW Unit×Nat)}{a:List A2×List (Lit×DataW Unit)}(c:(p:Int)=lim)(b:p<bs.length):C0 bs lim rd a p=.error (8,(p:Int)):=by
 unfold C0 El;rw[Ba,AY b];simp only[];rw[As c]
def rt(r:Except (Int×Int) ((List A2×List (Lit×DataW Unit))×Nat)):Except (Int×Int) (DataW Unit×Nat):=match r with
 |.error e=>.error e
 |.ok (es,q)=>.ok (.map es.2,q)
theorem ZD{kd n:Int}{s:ByteArray}(h:CS W A (Ax kd n s kv u) V)(x:Int):CS W A (Ax x n s kv u) (V.setCell ⟨W.heap.size+3,0,Ak⟩ (A7 Ah x)):=by
 have a:∀j,j≠W.heap.size+3->(V.setCell ⟨W.heap.size+3,0,Ak⟩ (A7 Ah x)).heap[j]?=V.heap[j]?:=λj b=>BV V _ _ _ (by simpa using b);refine⟨(a _ (by omega)).trans h.box,(a _ (by omega)).trans h.th,(a _ (by omega)).trans h.flt,?_,h.below.trans ⟨rfl,rfl,rfl,by simp[World.setCell],λj b=>a j (by omega)⟩⟩;rw[DJ _ _ _ _ _ _ h.tv];rfl
theorem ru{V':Al}(h:CS W A y V)(b:MG V V' kv u)(d:∀g,kv.ownBlock=Aj g->W.heap.size+4<=g)(f:∀g,u.ownBlock=Aj g->W.heap.size+4<=g):CS W A y V':=by
 have i:=h.size;have a:∀j,j<W.heap.size+4->V'.heap[j]?=V.heap[j]?:=λj c=>b.block j (by omega) (λe=>by have:=d j e.symm;omega) (λe=>by have:=f j e.symm;omega);exact⟨(a _ (by omega)).trans h.box,(a _ (by omega)).trans h.th,(a _ (by omega)).trans h.flt,(a _ (by omega)).trans h.tv,h.below.trans ⟨b.os,b.tape,b.output,b.size,λj c=>a j (by omega)⟩⟩
theorem ZE(h:CS W A y V)(z:A4):CS W A z (V.setRow (W.heap.size+3) z) :=
 ⟨sx (by omega) h.box,sx (by omega) h.th,sx (by omega) h.flt,B4 _ _ _ _ _ _ h.tv,Bu h.below (by omega) _⟩
theorem ZF(h:CS W A y V)(j:Nat)(a:W.heap.size+4<=j)(z:A4):CS W A y (V.setRow j z) :=
 ⟨sx (by omega) h.box,sx (by omega) h.th,sx (by omega) h.flt,sx (by omega) h.tv,Bu h.below (by omega) _⟩
theorem Lq(b:Al)(c d:Obj)(a f:A4):A1 b ((((b.alloc c).alloc d).setRow b.heap.size a).setRow (b.heap.size+1) f) :=
 Bu (Bu ((AH).alloc (by simp only[AM,A1];omega) _) (AB _) _) (by omega) _
theorem I3(a:Al)(b c:Obj):((a.alloc b).alloc c).heap[a.heap.size]?=Aj b/\((a.alloc b).alloc c).heap[a.heap.size+1]?=Aj c:=by
 have d:=Ay (a.alloc b) c;simp only[AM,A1]at d;exact⟨(AL _ _ _ (by simp only[AM,A1];omega)).trans (Ay _ _),d⟩
theorem Oi{t:TypeId}:((((w.alloc o).alloc (Af a t)).setRow w.heap.size b).setRow (w.heap.size+1) f).heap[w.heap.size+1]?=Aj (Af f t):=B4 _ _ _ _ _ _ ((BO _ _ _ _ (by omega)).trans (I3 w _ _).2)
theorem TS{t:TypeId}:((((w.alloc (Af a t)).alloc o).setRow w.heap.size b).setRow (w.heap.size+1) f).heap[w.heap.size]?=Aj (Af b t):=(BO _ _ _ _ (by omega)).trans (B4 _ _ _ _ _ _ (I3 w _ _).1)
theorem rv(k:Nat)(W:Al)(bs:A2)(fm d l lim:Int)(i:Nat)(dp:Int)(c:UInt8)(hc:bs[i]?=Aj c)(hv:c.toNat=123)(hp:¬(i:Int)=lim)(hl:Lm bs l lim)(hi:AS bs lim i)(hb:bs.length<=281474976710656)(br:lim<=200000000)(b8:0<=dp)(cg:dp<d)(ch:d<=100000)(N:Nat->Except (Int×Int) (DataW Unit×Nat))(bm:∀p,CM (N p))(bt:∀p:Nat,(p:Int)=lim->p<bs.length->N p=.error (8,(p:Int)))(bo:∀p aq ag,N p=.ok (aq,ag)->p<ag)(cJ:∀V (p:Nat),AS bs lim p->An Ao 59 #[.agg (AF bs fm d l),A7 Ah p,A7 Ah (dp+1)] V (DA k bs lim V (N p))):An Ao 90 #[.agg (AF bs fm d l),A7 Ah i,A7 Ah dp] W (DA (k+1) bs lim W (rt (BW bs lim (C0 bs lim N) 125 (i+1) ([],[])))):=by
 obtain⟨au,HR⟩:∃au,Hid (BW bs lim (C0 bs lim N) 125 (i+1) ([],[])=au):=⟨_,show _=_ from rfl⟩
 rw[HR.out];have cj:=B9 hc;have ck:=D6 bs i c hc;have c4:((c.toNat:Int)==123)=true:=by rw[hv];rfl
 have bp:=DZ hi hc hp;have HL:=Ap hl;have cH:=MB bs fm d l;have cB:=MC bs fm d l;have x:∀V (p:Nat),p<=bs.length->An Ao 35 #[.agg #[Aa ⟨bs.toArray⟩,A7 Ah fm,A7 Ah d,A7 Ah l],A7 Ah p] V λe W'=>e=.returned (A7 Ah (CI bs l (bs.length+1-p) p))/\A1 V W':=λV p hp=>Mx V bs fm d l p hb hp;have be:Hid (∀V (p:Nat),AS bs lim p->An Ao 59 #[.agg #[Aa ⟨bs.toArray⟩,A7 Ah fm,A7 Ah d,A7 Ah l],A7 Ah p,A7 Ah (dp+1)] V (DA k bs lim V (N p))):=cJ;have bf:=Ap bo;have b2:=Ap bm;have b3:=Ap bt;have ao:=λV=>x V (i+1) (by omega);obtain⟨D,bb⟩:∃D,D=CI bs l (bs.length+1-(i+1)) (i+1):=⟨_,rfl⟩
 obtain⟨bv,cd⟩:=Zs hl bp bb HR;rw[<-bb]at ao;have cq:=bv.1;have ad:=λV=>cH V D;have ci:decide (d<=dp)=false:=by simp;omega
 clear hc hv hp hl hi bp cJ bo bm bt bb HR;rcases cd with⟨v,y,A,he,bk,af⟩|⟨ap,bl⟩
 ·rw[A]at ad;have ca:=λV=>D6 bs D v y V;have ax:((v.toNat:Int)==125)=true:=by rw[he];rfl
  have a3:=Ap bk;have b5:=Ap af;have cu:=B9 y;clear y A he bk af cH cB x be bf bv;unfold AF;go_enter func90,ntmps90
  go_wp2_with(first
   |(go_at_call 35;have a5:Hid (CS W (AF bs fm d l) (Ax 7 0 ⟨#[]⟩ AK AK) (E.setCell ⟨W.heap.size+1+1+1,0,Ak⟩ (A7 Ah 7))):=ZD n 7;refine BN (ao _) a5.next (λ_ h=>h.box) ?_;clear ao a b c2 m k0 f0;intro w2 t a b c2 m)
   |(go_at_call 57;refine BN (ad _) t.next (λ_ h=>h.box) ?_;clear ad a b c2 m;intro w3 R a b c2 m)
   |((with_reducible refine zT 9 21 rfl rfl (W.heap.size+3) (Ax 6 0 ⟨#[]⟩ AK AK) ?_ ?_);exact⟨rfl,rfl,Ql W _,thg⟩;refine DM ?_;intro E ak;have n:Hid (CS W (AF bs fm d l) (Ax 6 0 ⟨#[]⟩ AK AK) E):=ak▸Qk W _ _;clear ak;obtain⟨a,b,c2,m⟩:=BF n.box;have k0:E.cell? ⟨W.heap.size+1+1+1,0,Ak⟩=Aj (A7 Ah 6):=Ar n.tv 0;have f0:E.frozen? ⟨W.heap.size+1+1+1,0,Ak⟩=false:=Cx E (W.heap.size+3) 0 _ _ n.tv)
   |((with_reducible refine B3 rfl 62 (.tmp 9) rfl (W.heap.size+3) ?hx 62 (Ax 7 0 ⟨#[]⟩ AK AK) (0,0) _ ?hg underlying62 rfl ?hi ?_);(case hx=>exact rfl);(case hg=>exact R.tv);(case hi=>exact Iu _ _ _ _ _))
   |((with_reducible refine zT 6 43 rfl rfl (W.heap.size+1) (Ax 7 0 ⟨#[]⟩ AK AK) ?_ ?_);exact⟨rfl,rfl,R.th,thg⟩)
   |((with_reducible refine zF 8 46 rfl rfl (W.heap.size+2) (0,0) ?_ ?_);exact⟨rfl,rfl,EI R.rth Bb _⟩))
  have w:=Dy R.rth Bb (Ax 7 0 ⟨#[]⟩ AK AK) (0,0);refine Dz results90 w (A7 Ah ((D:Int)+1)) rfl rfl rfl rfl ⟨w.2.2,?_⟩;exact⟨.ok (.map [],D+1),.inl (by rw[a3.out];rfl),b5,_,_,_,_,_,_,_,_,_,rfl,(Zy k _ (W.heap.size) (λ_=>False)).map (AB _)⟩
 have Z:=Ap bl;have cb:(Bo bs l D=false)\/(∃c,bs[D]?=Aj c/\Bo bs l D=true/\((c.toNat:Int)==125)=false):=by
  rcases ap with h|⟨c,h1,P,h3⟩
  ·exact .inl h
  exact .inr ⟨c,h1,P,by simp;omega⟩
 clear ap bl;rcases cb with ap|⟨v,y,A,ax⟩
 focus
  rw[ap]at ad;clear ap
 rotate_left
 focus
  rw[A]at ad;have cl:=λV=>D6 bs D v y V;have cv:=B9 y;clear A y
 all_goals
  unfold AF;go_enter func90,ntmps90
  go_wp2_with(first
   |(go_at_call 35;have a5:Hid (CS W (AF bs fm d l) (Ax 7 0 ⟨#[]⟩ AK AK) (E.setCell ⟨W.heap.size+1+1+1,0,Ak⟩ (A7 Ah 7))):=ZD n 7;refine EG (ao _) a5.next ?_;clear ao a b c2 m k0 f0;intro w2 b6 t;obtain⟨a,b,c2,m⟩:=BF t.box)
   |(go_at_call 57;refine EG (ad _) t.next ?_;clear ad a b c2 m;intro w3 b7 R;obtain⟨a,b,c2,m⟩:=BF R.box)
   |((with_reducible refine zT 9 21 rfl rfl (W.heap.size+3) (Ax 6 0 ⟨#[]⟩ AK AK) ?_ ?_);exact⟨rfl,rfl,Ql W _,thg⟩;refine DM ?_;intro E ak;have n:Hid (CS W (AF bs fm d l) (Ax 6 0 ⟨#[]⟩ AK AK) E):=ak▸Qk W _ _;clear ak;obtain⟨a,b,c2,m⟩:=BF n.box;have k0:E.cell? ⟨W.heap.size+1+1+1,0,Ak⟩=Aj (A7 Ah 6):=Ar n.tv 0;have f0:E.frozen? ⟨W.heap.size+1+1+1,0,Ak⟩=false:=Cx E (W.heap.size+3) 0 _ _ n.tv))
  go_loopg[1] (bs.length+1-D) (λg bz wr=>∃(p:Nat) (C:List A2) (O:List (DataW Unit)) (Q:A5) (U T:Nat) (X:A5) (z Y:Nat),bz=A7 Ah p/\Hid (bs.length+1<=p+g)/\Hid (J7 bs lim (C0 bs lim N) 125 g p (C.reverse,Fq C O) au)/\Hid (C.length<=p)/\Hid (CS W (AF bs fm d l) (Ax 7 0 ⟨#[]⟩ (A8 Q U T) (A8 X z Y)) wr)/\Hid (DH k wr (W.heap.size+4) (A8 Q U T) (A8 X z Y) (λ_=>False) C O))
  case atStart=>exact⟨D,[],[],Ak,0,0,Ak,0,0,rfl,by show _<=_;omega,Z,Cy _,R,Zy _ _ _ _⟩
  case round =>
   clear Z n t R b6 b7 a b c2 m;obtain⟨p,C,O,Q,U,T,X,z,Y,rfl,hg,Z,bn,n,ah⟩:=hrel;have ct:(p:Int)<=200000000:=R0 Z.1.2 br;have cp:=Z.1.1;have cz:=n.size;obtain⟨a,b,c2,m⟩:=BF n.box;have k0:wr.cell? ⟨W.heap.size+1+1+1,0,Ak⟩=Aj (A7 Ah 7):=Ar n.tv 0;have n0:W.heap.size+1+1+1<wr.heap.size:=by omega
   have n2:W.heap.size+3<wr.heap.size:=by omega
   have n1:W.heap.size<wr.heap.size:=by omega
   go_wp2_with(first
    |((with_reducible refine B3 rfl 62 (.tmp 9) rfl (W.heap.size+3) ?hx 62 (#[A7 Ah 7,A7 Ah 0,Aa ⟨#[]⟩,A8 Q U T,A8 X z Y]) (0,0) _ ?hg underlying62 rfl ?hi ?_);(case hx=>exact rfl);(case hg=>exact(AL _ _ _ (by omega)).trans n.tv);(case hi=>exact Lo)))
   have bi:Hid (DH k (wr.alloc (Af (Aw (0,0)) 64)) (W.heap.size+4) (A8 Q U T) (A8 X z Y) (λj=>j=wr.heap.size) C O):=(ah.other (ex':=λj=>j=wr.heap.size) (λj h=>.inr (LM h.symm))).next (by simp) (λj _ o _=>AL _ _ _ o)
   refine(ro k _ bs fm d l lim p dp (W.heap.size+4) Q X U T z Y (λj=>j=wr.heap.size) C O HL Z.1 hb br bi (by have:=bn.out;omega) N b3 (by simp;omega) (λj h=>by subst h;simp) b8 (by omega) be).mono ?_;clear a b c2 m k0 n0 n1 n2;rintro e w2 ⟨aw,r',bu,he⟩;have cy:wr.heap.size+1<=w2.heap.size:=by have:=aw.size;simp only[AM,A1]at this;omega
   have az:Hid (∀g,(Value.slice Q U T).ownBlock=Aj g->W.heap.size+4<=g/\g<wr.heap.size):=λg e=>⟨E7 ah.keys e,GE ah.keys e⟩
   have a4:Hid (∀g,(Value.slice X z Y).ownBlock=Aj g->W.heap.size+4<=g/\g<wr.heap.size):=by
    obtain⟨xs,ho,_⟩:=ah.kids;exact λg e=>⟨E7 ho e,GE ho e⟩
   have al:=Ap (ru (n.next AH) aw (λg e=>(az g e).1) (λg e=>(a4 g e).1));have HF:=Ap ((aw.block _ (by simp) (λe=>by have:=(az _ e.symm).2;omega) (λe=>by have:=(a4 _ e.symm).2;omega)).trans (Ay _ _));have a0:=Ap bu;have bg:=Ap ah.len;clear bu aw az a4 bi n ah
   cases r' with
   |error f =>
    obtain⟨kd,nn,s,a1,i1,j1,b1,q1,m1,bz,rfl⟩:=he;have co:(f.1==0)=false:=by
     have:=Zh a0 (Yz b2 _ p) f.1 f.2 rfl;simpa using this
    simp only[]
    go_wp2_with(first
     |((with_reducible refine Bg rfl 62 (.tmp 9) (.tmp 56) rfl (W.heap.size+3) (Ax kd nn s (A8 a1 i1 j1) (A8 b1 q1 m1)) ?hx ?hy 62 (Ax 7 0 ⟨#[]⟩ (A8 Q U T) (A8 X z Y)) ?hg ?hi ?hs ?h1 ?_);(case hx=>exact rfl);(case hy=>exact rfl);(case hg=>exact al.tv);(case hi=>exact Iu _ _ _ _ _);(case hs=>exact rfl);(case h1=>exact TF _ _ _ _ _ _ _ _ _))
     |((with_reducible refine zF 11 58 rfl rfl (wr.heap.size) (f) ?_ ?_);exact⟨rfl,rfl,sx (by omega) HF⟩;refine DM ?_;intro V2 ay;have t:=Ap (ay▸ZF (ZE al _) _ (by omega) _);have am:=Ap (ay▸B4 _ _ _ _ _ _ (sx (by omega) HF));clear ay;obtain⟨a,b,c2,m⟩:=BF t.box;have u0:V2.cell? ⟨wr.heap.size,0,Ak⟩=Aj (A7 Ah (f.1)):=Ar am 0))
    have HE:=Ap (rp Z a0 (λh1 P=>ZC h1 P));refine Cp (S:=λa6=>a6.heap[wr.heap.size]?=Aj (Af (Aw f) 64)) (am) (by kernel_rfl) ?_;intro hS;refine AD 0 77 (.agg AR) rfl (λa6 hZ=>?y0) hS ?_
    case y0=>(unfold AR Ax AK;go_simp)
    refine AD 1 78 (.agg (Aw f)) rfl (λa6 hZ=>yF 11 hZ rfl rfl) hS ?_;have a9:=(BO _ (W.heap.size+1) wr.heap.size AR (by omega)).trans hS;refine I1 2 6 77 (W.heap.size+1) (AR) (by kernel_rfl) (t.th) thg (a9) ?_;refine Au 3 7 (A7 Ah 0) a9 ?_;refine sF 4 8 78 (W.heap.size+2) f (by kernel_rfl) (EI (V:=V2) t.rth Bb _) (sx (by omega) a9) ?_;refine Bw ?_;go_simp;go_wp2;have w:=Dy t.rth.drew Bb (AR) (f);refine Dz results90 w (A7 Ah 0) rfl rfl rfl rfl ⟨w.2.2,?_⟩;exact⟨.error (f),.inl (by rw[HE.out];rfl),_,_,_,_,_,_,_,_,_,_,rfl⟩
   |ok aq =>
    obtain⟨aq,ag⟩:=aq;obtain⟨af,lk,dd,G,I,H,J,L,K,rfl,rfl,hM⟩:=he;have HM:=Ap hM;clear hM;simp only[]
    go_wp2_with(first
     |((with_reducible refine Bg rfl 62 (.tmp 9) (.tmp 56) rfl (W.heap.size+3) (Ax 7 0 ⟨#[]⟩ (A8 G I H) (A8 J L K)) ?hx ?hy 62 (Ax 7 0 ⟨#[]⟩ (A8 Q U T) (A8 X z Y)) ?hg ?hi ?hs ?h1 ?_);(case hx=>exact rfl);(case hy=>exact rfl);(case hg=>exact al.tv);(case hi=>exact Iu _ _ _ _ _);(case hs=>exact rfl);(case h1=>exact TF _ _ _ _ _ _ _ _ _))
     |((with_reducible refine zF 11 58 rfl rfl (wr.heap.size) (0,0) ?_ ?_);exact⟨rfl,rfl,sx (by omega) HF⟩;have t:Hid (CS W (AF bs fm d l) (Ax 7 0 ⟨#[]⟩ (A8 G I H) (A8 J L K)) ((w2.setRow (W.heap.size+3) (Ax 7 0 ⟨#[]⟩ (A8 G I H) (A8 J L K))).setRow wr.heap.size (Aw (0,0)))):=ZF (ZE al _) _ (by omega) _;have am:Hid (((w2.setRow (W.heap.size+3) (Ax 7 0 ⟨#[]⟩ (A8 G I H) (A8 J L K))).setRow wr.heap.size (Aw (0,0))).heap[wr.heap.size]?=Aj (Af (Aw (0,0)) 64)):=B4 _ _ _ _ _ _ (sx (by omega) HF);have bh:Hid (DH k ((w2.setRow (W.heap.size+3) (Ax 7 0 ⟨#[]⟩ (A8 G I H) (A8 J L K))).setRow wr.heap.size (Aw (0,0))) (W.heap.size+4) (A8 G I H) (A8 J L K) (λ_=>False) (C++[lk]) (O++[dd])):=(HM.next (V':=(w2.setRow (W.heap.size+3) (Ax 7 0 ⟨#[]⟩ (A8 G I H) (A8 J L K))).setRow wr.heap.size (Aw (0,0))) (by simp) (λj h1 _ hx=>by rw[BO _ _ _ _ hx,BO _ _ _ _ (by omega)])).other (λ_ h=>h.elim);generalize(w2.setRow (W.heap.size+3) (Ax 7 0 ⟨#[]⟩ (A8 G I H) (A8 J L K))).setRow wr.heap.size (Aw (0,0))=V2 at *;obtain⟨a,b,c2,m⟩:=BF t.box;have u0:V2.cell? ⟨wr.heap.size,0,Ak⟩=Aj (A7 Ah (0)):=Ar am 0))
    obtain⟨r,bc⟩:∃r,r=CI bs l (bs.length+1-ag) ag:=⟨_,rfl⟩
    obtain⟨bw,cc⟩:=rq HL Z a0 (λh1 P=>ZC h1 P) (λaq ag h=>RY bf _ _ _ _ h) af hg.out bc;have cx:=af.1;have cs:=bw.1;have a7:=λV=>x V ag af.1;rw[<-bc]at a7;have M:=λV=>cH V r;have ai:=λV=>cB V r 9;refine(a7 _).mono ?_;rintro e w7 ⟨rfl,av⟩;have an:=Ap (t.next av);have ar:=Ap (bh.next av.size (λj _ o _=>av.block j o));clear af bc bw a7 a b c2 m u0 t bh av am HM HF al;simp only[];obtain⟨a,b,c2,m⟩:=BF an.box;rcases cc with⟨A,aa⟩|⟨v,y,A,hx⟩
    ·rw[A]at M;have HE:=Ap aa;generalize BM bs l r 9=xx at *;clear A aa x cH cB
     go_wp2_with(first
      |(go_at_call 57;refine EG (M _) an.next ?_;clear M a b c2 m;intro w8 F u;have ac:=Ap (ar.next F.size (λj _ o _=>F.block j o));obtain⟨a,b,c2,m⟩:=BF u.box)
      |(go_at_call 37;refine EG (ai _) u.next ?_;clear ai a b c2 m;intro w9 q B;have a2:=Ap (ac.next q.size (λj _ o _=>q.block j o));obtain⟨a,b,c2,m⟩:=BF B.box)
      |((with_reducible refine zT 6 101 rfl rfl (W.heap.size+1) (AR) ?_ ?_);exact⟨rfl,rfl,B.th,thg⟩)
      |((with_reducible refine zF 8 104 rfl rfl (W.heap.size+2) (xx) ?_ ?_);exact⟨rfl,rfl,EI B.rth Bb _⟩))
     have w:=Dy B.rth Bb (AR) (xx);refine Dz results90 w (A7 Ah 0) rfl rfl rfl rfl ⟨w.2.2,?_⟩;exact⟨.error (xx),.inl (by rw[HE.out];rfl),_,_,_,_,_,_,_,_,_,_,rfl⟩
    rw[A]at M;have ca:=λV=>D6 bs r v y V;have cr:=B9 y;rcases hx with⟨ae,aa,ab⟩|⟨ae,aj,ab,g',b9,cw,bq⟩|⟨ae,aj,aa⟩
    ·have ax:((v.toNat:Int)==125)=true:=by rw[ae];rfl
     have bx:((v.toNat:Int) != 125)=false:=by rw[ae];rfl
     have a3:=Ap aa;have b4:=Ap ab;clear A ae aa ab y x cH cB ai
     go_wp2_with(first
      |(go_at_call 57;refine EG (M _) an.next ?_;clear M a b c2 m;intro w8 F u;have ac:=Ap (ar.next F.size (λj _ o _=>F.block j o));obtain⟨a,b,c2,m⟩:=BF u.box)
      |((with_reducible refine B3 rfl 62 (.tmp 9) rfl (W.heap.size+3) ?hx 62 (Ax 7 0 ⟨#[]⟩ (A8 G I H) (A8 J L K)) (0,0) _ ?hg underlying62 rfl ?hi ?_);(case hx=>exact rfl);(case hg=>exact u.tv);(case hi=>exact Iu _ _ _ _ _))
      |((with_reducible refine zT 6 111 rfl rfl (W.heap.size+1) (Ax 7 0 ⟨#[]⟩ (A8 G I H) (A8 J L K)) ?_ ?_);exact⟨rfl,rfl,u.th,thg⟩)
      |((with_reducible refine zF 8 114 rfl rfl (W.heap.size+2) (0,0) ?_ ?_);exact⟨rfl,rfl,EI u.rth Bb _⟩))
     have w:=Dy u.rth Bb (Ax 7 0 ⟨#[]⟩ (A8 G I H) (A8 J L K)) (0,0);refine Dz results90 w (A7 Ah ((r:Int)+1)) rfl rfl rfl rfl ⟨w.2.2,?_⟩;refine⟨.ok (.map (Fq C O++[(.string lk,dd)]),r+1),.inl (by rw[a3.out];rfl),b4,_,_,_,_,_,_,_,_,_,rfl,?_⟩;rw[<-Zv bg.out];exact(ac.next (by simp) (λj cm cn _=>by rw[BO _ _ _ _ (by omega),BO _ _ _ _ (by omega)])).map (by omega)
    ·have ax:((v.toNat:Int)==125)=false:=by rw[aj];rfl
     have bx:((v.toNat:Int) != 125)=true:=by rw[aj];rfl
     have cf:((v.toNat:Int) != 44)=false:=by rw[aj];rfl
     subst b9;have a8:=λV=>x V (r+1) ab.1;obtain⟨p4,bd⟩:∃p4,p4=CI bs l (bs.length+1-(r+1)) (r+1):=⟨_,rfl⟩
     have ba:=Zq HL ab bq;rw[<-bd]at ba a8;have bj:Hid (r+1<=p4):=by
      show _<=_;rw[bd];rcases J2 HL (bs.length+1-(r+1)) (r+1) ab with⟨q',_,P,_,h4,_⟩|⟨q',_,P,h3,_⟩
      ·rw[P];exact h4
      rw[P];have:=ab.2;omega
     have b0:Hid (J7 bs lim (C0 bs lim N) 125 (g'+1) p4 ((C++[lk]).reverse,Fq (C++[lk]) (O++[dd])) au):=by
      rw[Zv bg,List.reverse_append];exact ba
     clear A ae aj ab y x cH cB ai bq bd ba
     go_wp2_with(first
      |(go_at_call 57;refine EG (M _) an.next ?_;clear M a b c2 m;intro w8 F u;have ac:=Ap (ar.next F.size (λj _ o _=>F.block j o));obtain⟨a,b,c2,m⟩:=BF u.box)
      |(go_at_call 35;refine EG (a8 _) u.next ?_;clear a8 a b c2 m;intro w9 q B;have a2:=Ap (ac.next q.size (λj _ o _=>q.block j o));obtain⟨a,b,c2,m⟩:=BF B.box))
     go_roundg (g'+1)
     case measure=>omega
     case rel=>exact⟨p4,C++[lk],O++[dd],_,_,_,_,_,_,rfl,by show _<=_;have:=hg.out;have:=bj.out;omega,b0,by show _<=_;rw[AC];have:=bn.out;have:=bj.out;simp;omega,B,a2⟩
    have ax:((v.toNat:Int)==125)=false:=by simp;omega
    have bx:((v.toNat:Int) != 125)=true:=by simp;omega
    have cf:((v.toNat:Int) != 44)=true:=by simp;omega
    have HE:=Ap aa;generalize BM bs l r 9=xx at *;clear A ae aj aa y x cH cB
    go_wp2_with(first
     |(go_at_call 57;refine EG (M _) an.next ?_;clear M a b c2 m;intro w8 F u;have ac:=Ap (ar.next F.size (λj _ o _=>F.block j o));obtain⟨a,b,c2,m⟩:=BF u.box)
     |(go_at_call 37;refine EG (ai _) u.next ?_;clear ai a b c2 m;intro w9 q B;have a2:=Ap (ac.next q.size (λj _ o _=>q.block j o));obtain⟨a,b,c2,m⟩:=BF B.box)
     |((with_reducible refine zT 6 101 rfl rfl (W.heap.size+1) (AR) ?_ ?_);exact⟨rfl,rfl,B.th,thg⟩)
     |((with_reducible refine zF 8 104 rfl rfl (W.heap.size+2) (xx) ?_ ?_);exact⟨rfl,rfl,EI B.rth Bb _⟩))
    have w:=Dy B.rth Bb (AR) (xx);refine Dz results90 w (A7 Ah 0) rfl rfl rfl rfl ⟨w.2.2,?_⟩;exact⟨.error (xx),.inl (by rw[HE.out];rfl),_,_,_,_,_,_,_,_,_,_,rfl⟩
theorem ZG(k:Nat)(W:Al)(bs:A2)(fm d l lim:Int)(i:Nat)(b:Int)(c:UInt8)(g:bs[i]?=Aj c)(o:¬(i:Int)=lim)(n:Lm bs l lim)(hi:AS bs lim i)(j:d<=b):An Ao 90 #[.agg (AF bs fm d l),A7 Ah i,A7 Ah b] W (DA k bs lim W (.error (11,(i:Int)))):=by
 have u:decide (d<=b)=true:=by simpa using j
 have f:∀V,An Ao 37 #[.agg #[Aa ⟨bs.toArray⟩,A7 Ah fm,A7 Ah d,A7 Ah l],A7 Ah i,A7 Ah 11] V λe q=>e=.returned (.agg (Aw (11,(i:Int))))/\A1 V q:=λV=>by
  have h:=Lk V bs fm d l i 11;rw[Hc n hi g o]at h;exact h
 have p:=Kv W bs fm d l;clear g o n hi j;unfold AF;go_enter func90,ntmps90
 go_wp2_with(first
  |(go_at_call 37;refine BN (f _) p.next (λ_ h=>h.box) ?_;clear f;intro v a r s c2 t)
  |((with_reducible refine zT 6 17 rfl rfl (W.heap.size+1) (AR) ?_ ?_);exact⟨rfl,rfl,a.th,thg⟩)
  |((with_reducible refine zF 8 20 rfl rfl (W.heap.size+2) (11,(i:Int)) ?_ ?_);exact⟨rfl,rfl,EI a Bb _⟩))
 have m:=Dy a Bb (AR) (11,(i:Int));refine Dz results90 m (A7 Ah 0) rfl rfl rfl rfl ⟨m.2.2,?_⟩;exact⟨.error (11,(i:Int)),.inl rfl,_,_,_,_,_,_,_,_,_,_,rfl⟩
theorem rz(s:AQ)(c:UInt8)(p:Nat):CM (Ez s c p):=Yx _ _
theorem rA(a:bs[p]?=Aj c)(h:Cm c=false):Ee bs l p=false:=by
 unfold Ee;rw[a];simp only[];rw[h,OI]
theorem rB(h:Cm c=true):48<=(c.toNat:Int)/\(c.toNat:Int)<=57:=By h
theorem rC(h:¬Cm c=true):(c.toNat:Int)<48\/57<(c.toNat:Int):=by
 have b:¬(48<=(c.toNat:Int)/\(c.toNat:Int)<=57):=λa=>h (Bs a);omega
theorem rD(W:Al)(bs:A2)(fm d l lim:Int)(i:Nat)(c:UInt8)(j:bs[i]?=Aj c)(A:c.toNat=45\/Cm c=true)(t:¬(i:Int)=lim)(k:Lm bs l lim)(hi:AS bs lim i)(n:bs.length<=281474976710656)(s:AQ)(w:s.bs=bs)(y:s.lim=lim):An Ao 91 #[.agg (AF bs fm d l),A7 Ah i] W λe m=>Gf bs lim (Ez s c (i+1)) e/\A1 W m:=by
 subst w;subst y;unfold Ez Ci;simp only[];have o:=DZ hi j t;by_cases b:c.toNat=45
 ·rw[As b];have p:∀x,Ee s.bs l (i+1)=false->BM s.bs l (i+1) 9=x->An Ao 91 #[.agg (AF s.bs fm d l),A7 Ah i] W λe m=>Gf s.bs s.lim (.error x) e/\A1 W m:=λx u v=>(qk W s.bs fm d l i c j b n x u v).mono λe m h=>⟨⟨.error x,.inl rfl,(λz q e=>by cases e),h.1⟩,h.2⟩
  cases a:s.bs[i+1]? with
  |none =>
   simp only[];exact p _ (Qh (Ir a)) (JM o.1 a 9)
  |some r =>
   simp only[];by_cases g:((i+1:Nat):Int)=s.lim
   ·rw[As g];exact p _ (Qh (Hz k a g)) (GB k a g 9)
   rw[Aq g];by_cases f:Cm r=true
   ·rw[As f];have h:=Zb W s.bs fm d l s.lim i (i+1) _ true c r j (.inl ⟨rfl,b,rfl,rfl⟩) a f g k o n;unfold GC at h;simp only[K3]at h;exact h
   rw[Aq f];exact p _ (rA a (by simpa using f)) (Hc k o a g 9)
 rw[Aq b];have f:Cm c=true:=A.resolve_left b;have h:=Zb W s.bs fm d l s.lim i i _ false c c j (.inr ⟨rfl,b,rfl,rfl⟩) j f t k hi n;unfold GC at h;simp only[Bool.false_eq_true,LP]at h;exact h
theorem ZH{depth:Int}{nm:UInt8->Nat->A6 Int}{wi:Nat}(b:(p:Int)=lim)(a:p<bs.length):BX bs lim depth nm (g+1) wi p=.error (8,(p:Int)):=by
 rw[BX,AY a];simp only[];rw[As b]
theorem TT(s:AQ)(fm l:Int)(k:Lm s.bs l s.lim)(t:s.bs.length<=281474976710656)(E:s.lim<=200000000)(J:s.depth<=100000):∀(g a:Nat) (W:Al) (i:Nat),(a:Int)<=s.depth->s.depth<a+g->AS s.bs s.lim i ->
  An Ao 59 #[.agg (AF s.bs fm s.depth l),A7 Ah i,A7 Ah a] W (DA g s.bs s.lim W (BX s.bs s.lim s.depth (Ez s) g a i))
 |0,a,W,i,m,n,_=>absurd n (by omega)
 |g+1,a,W,i,m,n,hi=>by
  have U:∀p,(a:Int)+1<=s.depth->CM (BX s.bs s.lim s.depth (Ez s) g (a+1) p):=λp h=>Te s.bs s.lim s.depth (Ez s) (λc p=>rz s c p) g (a+1) p (by omega) (by omega);have X:(a:Int)<s.depth->∀p:Nat,(p:Int)=s.lim->p<s.bs.length->BX s.bs s.lim s.depth (Ez s) g (a+1) p=.error (8,(p:Int)):=λh p y z=>by
   obtain⟨T,rfl⟩:∃T,g=T+1:=⟨g-1,by omega⟩
   exact ZH y z
  rw[BX]
  cases b:s.bs[i]? with
  |none=>exact TO g W s.bs fm s.depth l s.lim i a _ (JM hi.1 b 9) (Oh _) (.inl (Ir b))
  |some c =>
   simp only[];by_cases d:(i:Int)=s.lim
   ·rw[As d];exact TO g W s.bs fm s.depth l s.lim i a _ (GB k b d 9) (Oh _) (.inl (Hz k b d))
   rw[Aq d];have o:=JN k hi b d;have R:∀(w:UInt8) (xs:A2) (S:Int) (L:A3),c=w->(w.toNat,(w::xs).toArray,S)∈([(110,#[110,117,108,108],0),(102,#[102,97,108,115,101],1),(116,#[116,114,117,101],2)]:List (Nat×Array UInt8×Int))->(∀B:Al,BG 1 B (λj=>W.heap.size<=j/\j<B.heap.size) (.agg (Ax S 0 ⟨#[]⟩ AK AK)) L)->(w::xs).length<=10->An Ao 59 #[.agg (AF s.bs fm s.depth l),A7 Ah i,A7 Ah a] W (DA (g+1) s.bs s.lim W (match Ba s.bs s.lim xs (i+1)with
     |.error e=>.error e
     |.ok (_,q)=>.ok (L,q))):=λw xs S L m n y z=>by
    have C:=λV=>Qb V s.bs fm s.depth l s.lim i (w::xs) (AW z (by decide)) k hi t;rw[qR (xs:=xs) b d m]at C
    cases v:Ba s.bs s.lim xs (i+1)with
    |error f =>
     rw[v]at C;exact Zl g W s.bs fm s.depth l s.lim i a c b o _ _ _ _ _ (by rw[m]) n C (Oh f)
    |ok r =>
     obtain⟨ab,q⟩:=r;rw[v]at C;exact Zl g W s.bs fm s.depth l s.lim i a c b o _ _ _ _ _ (by rw[m]) n C (Zk (Oc xs (i+1) q (DZ hi b d) v).2 y)
   unfold FA;by_cases O:c.toNat=110
   ·rw[As O];exact R 110 [117,108,108] 0 _ (by apply K1.1;rw[O];rfl) (by decide) (λ_=>rfl) (by decide)
   rw[Aq O];by_cases P:c.toNat=116
   ·rw[As P];exact R 116 [114,117,101] 2 _ (by apply K1.1;rw[P];rfl) (by decide) (λ_=>rfl) (by decide)
   rw[Aq P];by_cases N:c.toNat=102
   ·rw[As N];exact R 102 [97,108,115,101] 1 _ (by apply K1.1;rw[N];rfl) (by decide) (λ_=>rfl) (by decide)
   rw[Aq N];by_cases H:c.toNat=34
   ·rw[As H];have F:=λV=>Of V s.bs fm s.depth l s.lim i k (DZ hi b d) t E
    cases v:Bn s.bs s.lim (s.bs.length+1-(i+1)) (i+1) [] 0 with
    |error f =>
     rw[v]at F;exact Zm g W s.bs fm s.depth l s.lim i a c b o _ _ _ H F (Oh f)
    |ok r =>
     obtain⟨x,q⟩:=r;rw[v]at F;exact Zm g W s.bs fm s.depth l s.lim i a c b o _ _ _ H F (Zk (Qj _ (i+1) [] 0 x q (DZ hi b d) v) λ_=>rfl)
   rw[Aq H];have M:((i+1:Nat):Int)-1=(i:Int):=by omega
   by_cases I:c.toNat=91
   ·rw[As I];refine TP g W s.bs fm s.depth l s.lim i a c b o (.inl ⟨.inl I,λV=>?_⟩);by_cases D:(a:Int)=s.depth
    ·rw[As D,M];exact ZG (g+1) V s.bs fm s.depth l s.lim i a c b d k hi (by omega)
    rw[Aq D];exact re g V s.bs fm s.depth l s.lim i a c b I d k hi t E (by omega) (by omega) J _ (λp=>U p (by omega)) (X (by omega)) (λp x q h=>Nx s _ _ _ _ _ h) (λK p _ Q=>TT s fm l k t E J g (a+1) K p (by omega) (by omega) Q)
   rw[Aq I];by_cases G:c.toNat=123
   ·rw[As G];refine TP g W s.bs fm s.depth l s.lim i a c b o (.inl ⟨.inr G,λV=>?_⟩);by_cases D:(a:Int)=s.depth
    ·rw[As D,M];exact ZG (g+1) V s.bs fm s.depth l s.lim i a c b d k hi (by omega)
    rw[Aq D];exact rv g V s.bs fm s.depth l s.lim i a c b G d k hi t E (by omega) (by omega) J _ (λp=>U p (by omega)) (X (by omega)) (λp x q h=>Nx s _ _ _ _ _ h) (λK p Q=>TT s fm l k t E J g (a+1) K p (by omega) (by omega) Q)
   rw[Aq G];by_cases A:c.toNat=45\/Cm c=true
   ·rw[As A];have Y:∀V,An Ao 91 #[.agg (AF s.bs fm s.depth l),A7 Ah i] V λe B=>Gf s.bs s.lim (Ez s c (i+1)) e/\A1 V B:=λV=>rD V s.bs fm s.depth l s.lim i c b A d k hi t s rfl rfl;refine TP g W s.bs fm s.depth l s.lim i a c b o (.inr ⟨A.imp id λh=>by have:=rB h;omega,λV=>(Y V).mono λe B h=>?_⟩);obtain⟨⟨r',m,n,y⟩,z⟩:=h
    cases r' with
    |error f=>exact⟨z,.error f,qT m,_,_,_,_,_,_,_,_,_,_,y⟩
    |ok x=>exact⟨z,.ok (.lit (.int Ah x.1),x.2),qU m,(n _ _ rfl).1,_,_,_,_,_,_,_,_,_,y,Zj ⟨rfl,(n _ _ rfl).2⟩⟩
   rw[Aq A,M];have aa:¬c.toNat=45:=λh=>A (.inl h);have u:¬Cm c=true:=λh=>A (.inr h);have Z:=Hc k hi b d 9;exact TO g W s.bs fm s.depth l s.lim i a _ Z (Oh _) (.inr ⟨o,c,b,λx hx=>by simp at hx;omega,by have:=rC u;omega⟩)
def TV(J:Prop)(W:Al)(e:Ending)(W':Al):Prop:=∃q E P,e=.returned (.tuple #[.string q,A7 Ah E,A7 Ah P])/\(E=0->J)/\A1 W W'
theorem ZJ(J:Prop)(W:Al)(bs:A2)(d l:Int)(a:An Ao 11 #[A7 Ah 1,A7 Ah 2,A7 Ah d,A7 Ah l,Aa ⟨bs.toArray⟩] W (TV J W)):An Ao 7 #[Aa ⟨bs.toArray⟩,A7 Ah d,A7 Ah l] W λe j=>∃b,e=.returned (.bool b)/\(b=true->J)/\A1 W j:=by
 go_enter func7,ntmps7
 go_wp2_with(first
  |(go_at_call 11;refine a.mono ?_;clear a;rintro e k ⟨q,E,P,rfl,f,c⟩;have i:=Ap f;have g:=Ap c;clear f c))
 go_ret;exact⟨_,rfl,λh=>i.out (by simpa using h),g⟩
end
end Go.Proofs.YtoegnhgofkhbnaaGreatDoor
