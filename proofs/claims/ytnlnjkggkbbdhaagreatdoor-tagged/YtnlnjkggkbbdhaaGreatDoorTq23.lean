import Derived.Test.YtnlnjkggkbbdhaaGreatDoorTq22
set_option maxRecDepth 100000
set_option maxHeartbeats 8000000
set_option linter.all false
namespace Go.Proofs.YtnlnjkggkbbdhaaGreatDoor
open Go.Proofs.Tryz
open Go.Value renaming int->I,slice->G
open Option renaming some->U,none->Y
open Go.IntKind renaming i64->K
open Go renaming World->O
open Go.Obj renaming cells->E
open Go.Proofs.Tryz renaming prog->X
open Go.Value renaming int->A6,pointer->A8,string->A9,tuple->Aa,agg->Ab,iface->Ad
open Go.IntKind renaming i64->Ag
open Go renaming World->Ak,Value->Al,Calls->Am
variable{P:Program}{V w:O}{o:Oper}{a:Act}{Q:Exit->Act->O->Prop}{N k:Nat}{c:Rc}{R:Cl}{sts:List ((Nat->Nat)×Int×Int)}{p:List (A1×Bool)}{d:A2}{D:A2->Prop}{A:A3}
section
open Go.RowKit Go.Lib
structure Gt where
 inF:Int
 out:Int
 depth:Int
 bytes:Nat
 rc:A3
 bk:Value
def Ck(g:Gt)(fed:Al)(cl:Bool):A3:=#[A6 Ag g.inF,A6 Ag g.out,A6 Ag g.depth,A6 Ag g.bytes]++g.rc++#[g.bk,fed,.bool cl]
def NX{g:Gt}(b:Al)(a:Bool)(j:Nat)(h:j<4):(Ck g b a)[j]?=#[Value.int K g.inF,I K g.out,I K g.depth,I K g.bytes][j]?:=by
 unfold Ck;rw[Array.append_assoc,Ov B3]
def Kt{g:Gt}(c:g.rc.size=40)(b:Al)(a:Bool)(j:Nat):(Ck g b a)[44+j]?=#[g.bk,b,.bool a][j]?:=by
 unfold Ck;rw[Ng (by simp[c])];simp[c]
def lX{g:Gt}(d:g.rc.size=40)(c b:Al)(a:Bool):(Ck g c a).setIfInBounds 45 b=Ck g b a:=by
 unfold Ck;apply Mu;have e:(#[Value.int K g.inF,I K g.out,I K g.depth,I K g.bytes]++g.rc).toList.length=44:=by simp[d]
 simp only[Ou];rw[SB,Q7 _ _ J,e];simp
def lY(W:O)(f:Nat)(v:Al)(d:A1)(k:A4)(c:Nat)(b:A1)(h:BG W f v d)(hb:Er W k b)(D:k=Y->c=0)(S:d.length+b.length<=999999999):∃l m,(Builtin.append_ #[38,38] 38 #[v,G k b.length c]).run X W=.ok l m/\BG m f l (d++b)/\W.grownBy m v.ownBlock:=by
 obtain⟨x,r,F,H,L⟩:=DZ Tryz.infoU8
 cases k with
 |none =>
  have B:b=[]:=by
   cases b with
   |nil=>rfl
   |cons a t =>
    obtain⟨g,off,e,_⟩:=hb.at_ 0 Az;cases e
  subst B;rw[D rfl];have n:=Wo (P:=X) (w:=W) f 38 38 5 x 1 underlying38 r v d.length _ h.1;refine⟨v,W,n,B3,⟨Z,Z,Z,BM _,λ_ _ _=>rfl⟩⟩
 |some o =>
  have C:∀j u,(b.map Cg)[j]?=U u->W.cell? (o.add j)=U u:=by
   intro j u i;have s:j<b.length:=Au (Cf i)
   obtain⟨g,off,y,_,A⟩:=hb.at_ j s;have z:=EB y;subst z;have e:(⟨g,off,Y⟩:Addr).add j=⟨g,off+j,Y⟩:=AX
   rw[e,A,<-i,Jc,C6 s];rfl
  obtain⟨l,N,n,p,q,_⟩:=OF (P:=X) W f 38 38 5 x (I .u8 0) 1 1 underlying38 r F H L rfl Ay v d.length _ h.1 o b.length c (b.map Cg) Az C (λu i=>by obtain⟨c,_,rfl⟩:=Mt.1 i;rfl) AC J h.2.1;refine⟨l,N,n,⟨by rw[BK,G9];exact p,C7 h.2.1 q.size,?_⟩,q⟩;rcases p.2 with⟨e,_⟩|⟨g,Q,R,e,_⟩
  ·exact⟨Y,0,0,e⟩
  exact⟨_,_,_,e⟩
def lZ(V:O)(c:A4)(n m b:Nat)(h:m<=b):(Instr.sliceAt 38 (G c n b) Y (U (I K m)) Y).run X V=.ok (G c m b) V:=by
 have e:∀a:Addr,a.add 0=a:=λa=>by simp[Addr.add]
 have d:(m:Int)<=b:=J
 rw[run_sliceAt_slice (P:=X) V 38 _ _ _ _ M];cases c<;>simp[Instr.slice,Ql underlying38,Instr.sliceBounds,run_sliceBound,d,e]
def m4{c:Prop}[Decidable c]{A B:Prop}(h:c)(a:A):if c then A else B:=by rw[BA h];exact a
def m5{w':O}{K:Act->O->Prop}(s x:Operand)(t:TypeId)(c:o.op=.call {callee:=.builtin .append,args:=#[s,x],argTypes:=#[t,t]})(v u b:Al)(e:a.eval s=v)(f:a.eval x=u)(d:(Builtin.append_ #[t,t] o.type #[v,u]).run P w=.ok b w')(h:K (a.put o.dst b) w'):o.wp P a w K Q:=by
 unfold Oper.wp execOp;simp only[c,resolve,invoke,builtin,Ei,Fq,EA,Nl,EU,Je,e,f,d];exact h
def m6(W:Ak)(L base:Nat)(g:Gt)(fed:Al)(l:A1)(e:Ending)(W':Ak):Prop :=
 ∃fa fn fc,e=.returned (Aa #[])/\BG W' base (.slice fa fn fc) l/\W'.heap[L]?=some (.cells (Ck g (.slice fa fn fc) false) 96)/\(W'.os=W.os/\W'.tape=W.tape/\W'.output=W.output)/\W.heap.size<=W'.heap.size/\∀k,k<W.heap.size->k≠L->some k≠fed.ownBlock->W'.heap[k]?=W.heap[k]?
def m7(W:O)(L s:Nat)(g:Gt)(aa:g.rc.size=40)(N:Al)(d:A1)(j:A4)(o:Nat)(bs:A1)(P:W.heap[L]?=U (E (Ck g N false) 96))(p:BG W s N d)(hL:L<s)(hb:Er W j bs)(ao:j=Y->o=0)(ay:bs.length<=o)(ax:g.bytes<=4096)(au:d.length<=g.bytes+1):Am prog 32 #[A8 (U ⟨L,0,Y⟩),G j bs.length o] W (m6 W L s g N (d++bs.take (g.bytes+1-d.length))):=by
 obtain⟨l,n,rfl,az⟩:=MG p;have HG:=T P;have HO:=T p;have c3:W.cell? ⟨L,3,Y⟩=U (I K g.bytes):=(BB P 3).trans (NX _ _ 3 Ay);have ah:W.cell? ⟨L,45,Y⟩=U (G l d.length n):=(BB P 45).trans (Kt aa _ _ 1);obtain⟨f,C⟩:∃f,Hid (d.length+f=g.bytes+1):=⟨g.bytes+1-d.length,AD⟩
 have ap:g.bytes+1-d.length=f:=Ao C.out
 rw[ap];obtain⟨m,v⟩:∃m,Hid (min bs.length f=m):=⟨_,rfl⟩
 have V:Hid ((bs.take f).length=m):=by show _=_;rw[In];have:=v.out;omega
 have aw:=hb.len;have ae:Hid (Er W j (bs.take f)):=⟨λab hi=>by
  have am:ab<bs.length:=by rw[In]at hi;omega
  obtain⟨g0,off,w,x,F⟩:=hb.at_ ab am;exact⟨g0,off,w,x,by rw[WG];exact F⟩,kfm⟩
 have Q:=T hL;have B:=T aa;have af:=T ao;have a0:m<=bs.length:=Ao v.out
 have a2:f<=4097:=Ao C.out
 have av:d.length<=4097:=J
 have c:(λa:O=>a.cell? ⟨L,3,Y⟩=U (I K g.bytes)/\a.cell? ⟨L,45,Y⟩=U (G l d.length n)) {W with drawn:=W.drawn+1}:=⟨c3,ah⟩
 go_enter func32,ntmps32
 go_wp2_with fail
 refine Ec (S:=λa=>a.cell? ⟨L,3,Y⟩=U (I K g.bytes)/\a.cell? ⟨L,45,Y⟩=U (G l d.length n)) M ?_;refine Cx 0 5 (A8 (U ⟨L,0,Y⟩)) Z M (λ_ _ _ h=>h) (λa b=>M) c ?_;refine Cx 1 6 (A8 (U ⟨L,0,Y⟩)) Z M (λ_ _ _ h=>h) (λa b=>M) c ?_;refine Cx 2 7 (A8 (U ⟨L,2,Y⟩)) Z M (λ_ _ _ h=>h) (λa b=>M) c ?_;refine Cx 3 8 (A8 (U ⟨L,3,Y⟩)) Z M (λ_ _ _ h=>h) (λa b=>M) c ?_;refine Cx 4 9 (I K g.bytes) Z M (λ_ _ _ h=>h) (λa b=>?y4) c ?_
 case y4=>(have z1:=b.1;go_simp)
 refine Cx 5 10 (I K ((g.bytes:Int)+1)) Z M (λ_ _ _ h=>h) (λa b=>?y5) c ?_
 case y5=>(go_simp;exact(Qf _).trans J)
 refine Cx 6 11 (A8 (U ⟨L,0,Y⟩)) Z M (λ_ _ _ h=>h) (λa b=>M) c ?_;refine Cx 7 12 (A8 (U ⟨L,0,Y⟩)) Z M (λ_ _ _ h=>h) (λa b=>M) c ?_;refine Cx 8 13 (A8 (U ⟨L,45,Y⟩)) Z M (λ_ _ _ h=>h) (λa b=>M) c ?_;refine Cx 9 14 (G l d.length n) Z M (λ_ _ _ h=>h) (λa b=>?y9) c ?_
 case y9=>(have z1:=b.2;go_simp)
 refine Cx 10 15 (I K d.length) Z M (λ_ _ _ h=>h) (λa b=>M) c ?_;refine Cx 11 16 (I K f) Z M (λ_ _ _ h=>h) (λa b=>?y11) c ?_
 case y11=>(go_simp;exact(Qf _).trans (Ao C.out))
 refine Cx 12 4 (I K f) Z M (λ_ _ _ h=>h) (λa b=>M) c ?_;refine OL M ?_ _;go_simp
 go_wp2_with fail
 refine Ec (S:=λ_=>True) M ?_;have A:Hid (({World.drew W with drawn:=(World.drew W).drawn+1}:O).heap[L]?=U (E (Ck g (G l d.length n) false) 96)):=HG;have R:Hid (BG {World.drew W with drawn:=(World.drew W).drawn+1} s (G l d.length n) d):=HO;have ad:Hid (Er {World.drew W with drawn:=(World.drew W).drawn+1} j (bs.take f)):=ae.below (C5 _ _).drew.drew;have r:Hid (A0 W {World.drew W with drawn:=(World.drew W).drawn+1}):=(C5 _ _).drew.drew;generalize({World.drew W with drawn:=(World.drew W).drawn+1}:O)=W2 at *;have c:(λ_:O=>True) W2:=trivial;have a4:W2.cell? ⟨L,45,Y⟩=U (G l d.length n):=(BB A 45).trans (Kt B _ _ 1);obtain⟨v',D,hr,i,al⟩:=lY W2 s (G l d.length n) d j o (bs.take f) R ad af (by rw[V.out];have:=v.out;omega);rw[V.out]at hr;have ag:=T i;have q:=T al;obtain⟨a5,n5,c5,rfl⟩:=i.2.2;have ak:U L≠(Value.slice l d.length n).ownBlock:=λe=>by have y:=Fa R.1 e.symm;have z:=Q.out;omega
 have u:=T ((q.block L (BC A) ak).trans A);have a3:D.cell? ⟨L,45,Y⟩=U (G l d.length n):=(BB u 45).trans (Kt B _ _ 1);have aq:=Dx D L 45 _ _ u;refine Cx 0 17 (A8 (U ⟨L,0,Y⟩)) Z M (λ_ _ _ h=>h) (λa b=>M) c ?_;refine Cx 1 18 (A8 (U ⟨L,0,Y⟩)) Z M (λ_ _ _ h=>h) (λa b=>M) c ?_;refine Cx 2 19 (A8 (U ⟨L,0,Y⟩)) Z M (λ_ _ _ h=>h) (λa b=>M) c ?_;refine Cx 3 20 (A8 (U ⟨L,45,Y⟩)) Z M (λ_ _ _ h=>h) (λa b=>M) c ?_;refine Cx 5 22 (G j bs.length o) Z M (λ_ _ _ h=>h) (λa b=>M) c ?_;refine Cx 6 23 (G j bs.length o) Z M (λ_ _ _ h=>h) (λa b=>M) c ?_;refine Cx 7 24 (I K bs.length) Z M (λ_ _ _ h=>h) (λa b=>M) c ?_;refine Cx 8 25 (I K f) Z M (λ_ _ _ h=>h) (λa b=>M) c ?_;refine Cx 9 26 (I K m) Z M (λ_ _ _ h=>h) (λa b=>?y9) c ?_
 case y9 =>
  have a1:min (bs.length:Int) (f:Int)=m:=Ao v.out
  go_simp
 refine Cx 10 27 (G j m o) Z M (λ_ _ _ h=>h) (λa b=>lU 38 (.tmp 22) Y (U (.tmp 26)) Z (X:=G j bs.length o) (L:=Y) (H:=U (I K m)) M M M (lZ a j bs.length m o J)) c ?_;refine MN 4 Z M (λk t=>?_);go_simp;refine t.out _ _ trivial (λ_=>?_);refine MN 11 Z M (λk t=>?_);refine m4 M ?_;refine m5 (.tmp 21) (.tmp 27) 38 Z (G l d.length n) (G j m o) _ M M hr ?_;refine t.out _ _ trivial (λ_=>?_);refine Cx 12 29 (A8 (U ⟨L,0,Y⟩)) Z M (λ_ _ _ h=>h) (λa b=>M) trivial ?_;refine Cx 13 30 (A8 (U ⟨L,45,Y⟩)) Z M (λ_ _ _ h=>h) (λa b=>M) trivial ?_;refine MN 14 Z M (λk t=>?_);go_simp;refine t.out _ _ trivial (λ_=>?_);refine OL M ?_ _;go_simp
 go_wp2_with fail
 go_end0;have ar:=BC u;refine⟨a5,n5,c5,Z,?_,?_,⟨q.os.trans r.os,q.tape.trans r.tape,q.output.trans r.output⟩,?_,λac hk y z=>?_⟩
 ·have p:=ag.out;have an:∀g,(Value.slice a5 n5 c5).ownBlock=U g->g≠L:=λg e x=>by have y:=Fa p.1 e;have z:=Q.out;omega
  refine⟨⟨p.1.1,?_⟩,by have:=p.2.1;simpa[World.setCell]using this,p.2.2⟩;rcases p.1.2 with h|⟨g1,ai,aj,w,x,F,e4⟩
  ·exact .inl h
  exact .inr ⟨g1,ai,aj,w,x,(CP _ _ _ _ (by simpa using an g1 (by rw[w];rfl))).trans F,e4⟩
 ·rw[ET D _ _ _ _ _ u,lX B.out]
 ·have y:=q.size;have z:=r.size;simp[World.setCell];omega
 exact(CP _ _ _ _ (by simpa using y)).trans ((q.block ac (CA hk r.size) z).trans (r.block ac hk))
def np{g:Gt}{L:Nat}{fed:Al}{cl:Bool}(b:V.heap[L]?=U (E (Ck g fed cl) 96)):∀(j:Nat) (u:Al),#[Value.int K g.depth,I K g.bytes][j]?=U u->V.cell? ⟨L,2+j,Y⟩=U u:=by
 intro j u a;have c:j<2:=BC a;refine(BB b (2+j)).trans ((NX fed cl (2+j) J).trans ?_)
 match j,c,a with
 |0,_,a=>exact a
 |1,_,a=>exact a
def nr(k:Nat)(V:O)(p L:Nat)(g:Gt)(aa:g.rc.size=40)(i:A4)(m l:Nat)(F:Bool)(r:Except (Int×Int) (DataW Unit))(R:V.heap[p]?=U (E #[A8 (U ⟨L,0,Y⟩)] 48))(o:V.heap[L]?=U (E (Ck g (G i m l) F) 96))(D:∀s,A0 V s->Am X 18 #[I K g.inF,Ab #[I K g.depth,I K g.bytes],G i m l] s (He k s r)):Am X 58 #[A8 (U ⟨p,0,Y⟩)] V (He k V r):=by
 have HG:=T o;have b:(λa:O=>a.cell? ⟨p,0,Y⟩=U (A8 (U ⟨L,0,Y⟩))/\a.cell? ⟨L,0,Y⟩=U (I K g.inF)/\(∀(j:Nat) (u:Al),#[Value.int K g.depth,I K g.bytes][j]?=U u->a.cell? ⟨L,2+j,Y⟩=U u)/\a.cell? ⟨L,45,Y⟩=U (G i m l)) {V with drawn:=V.drawn+1}:=⟨BB R 0,(BB o 0).trans (NX _ _ 0 Ay),np o,(BB o 45).trans (Kt aa _ _ 1)⟩
 have A:=T D;have Q:(prog.info? 61).map (·.size)=U (#[Value.int K g.depth,I K g.bytes]).size:=M
 go_enter func58,ntmps58
 go_wp2_with fail
 refine Ec (S:=λa=>a.cell? ⟨p,0,Y⟩=U (A8 (U ⟨L,0,Y⟩))/\a.cell? ⟨L,0,Y⟩=U (I K g.inF)/\(∀(j:Nat) (u:Al),#[Value.int K g.depth,I K g.bytes][j]?=U u->a.cell? ⟨L,2+j,Y⟩=U u)/\a.cell? ⟨L,45,Y⟩=U (G i m l)) M ?_;have f:Hid (A0 V {V with drawn:=V.drawn+1}):=(C5 _ _).drew;generalize({V with drawn:=V.drawn+1}:O)=V1 at *;refine Cx 0 2 (A8 (U ⟨L,0,Y⟩)) Z M (λ_ _ _ h=>h) (λa c=>?y0) b ?_
 case y0=>(have q:=c.1;go_simp)
 refine Cx 1 3 (A8 (U ⟨L,0,Y⟩)) Z M (λ_ _ _ h=>h) (λa c=>M) b ?_;refine Cx 2 4 (A8 (U ⟨L,0,Y⟩)) Z M (λ_ _ _ h=>h) (λa c=>M) b ?_;refine Cx 3 5 (I K g.inF) Z M (λ_ _ _ h=>h) (λa c=>?y3) b ?_
 case y3=>(have q:=c.2.1;go_simp)
 refine Cx 4 6 (A8 (U ⟨L,0,Y⟩)) Z M (λ_ _ _ h=>h) (λa c=>?y4) b ?_
 case y4=>(have q:=c.1;go_simp)
 refine Cx 5 7 (A8 (U ⟨L,0,Y⟩)) Z M (λ_ _ _ h=>h) (λa c=>M) b ?_;refine Cx 6 8 (A8 (U ⟨L,2,Y⟩)) Z M (λ_ _ _ h=>h) (λa c=>M) b ?_;refine Cx 7 9 (Ab #[I K g.depth,I K g.bytes]) Z M (λ_ _ _ h=>h) (λa c=>?y7) b ?_
 case y7=>exact NZ 61 (.tmp 8) rfl L 2 rfl _ _ c.2.2.1 underlying61 rfl Q
 refine Cx 8 10 (A8 (U ⟨L,0,Y⟩)) Z M (λ_ _ _ h=>h) (λa c=>?y8) b ?_
 case y8=>(have q:=c.1;go_simp)
 refine Cx 9 11 (A8 (U ⟨L,0,Y⟩)) Z M (λ_ _ _ h=>h) (λa c=>M) b ?_;refine Cx 10 12 (A8 (U ⟨L,45,Y⟩)) Z M (λ_ _ _ h=>h) (λa c=>M) b ?_;refine Cx 11 13 (G i m l) Z M (λ_ _ _ h=>h) (λa c=>?y11) b ?_
 case y11=>(have q:=c.2.2.2;go_simp)
 refine MN 12 Z M (λab N=>?_);go_simp;refine(A V1 f).mono ?_;rintro e w ⟨n,hF⟩;rcases r with⟨H,pl⟩|d
 ·obtain rfl:=(show C0 H pl e from hF)
  exact⟨Z,f.trans (n.mono f.size),Z⟩
 obtain⟨t,y,rfl,P⟩:=hF;simp only[];have W:p<V1.heap.size:=G8 b.1;have v:L<V1.heap.size:=G8 b.2.1;have x:(λa:O=>a.cell? ⟨p,0,Y⟩=U (A8 (U ⟨L,0,Y⟩))/\a.cell? ⟨L,0,Y⟩=U (I K g.inF)/\(∀(j:Nat) (u:Al),#[Value.int K g.depth,I K g.bytes][j]?=U u->a.cell? ⟨L,2+j,Y⟩=U u)/\a.cell? ⟨L,45,Y⟩=U (G i m l)) w:=⟨(n.cell (p:=⟨p,0,Y⟩) W).trans b.1,(n.cell (p:=⟨L,0,Y⟩) v).trans b.2.1,λj u hu=>(n.cell (p:=⟨L,2+j,Y⟩) v).trans (b.2.2.1 j u hu),(n.cell (p:=⟨L,45,Y⟩) v).trans b.2.2.2⟩
 have B:=T (f.trans (n.mono f.size));have C:Hid (BQ k w (λj=>V.heap.size<=j/\j<w.heap.size) (Ad t y) d):=P.same (λj z=>⟨C7 f.size z.1,z.2⟩) (λ_ _=>rfl);refine N.out _ _ x (λ_=>?_);refine Cx 13 1 (Ad t y) Z M (λ_ _ _ h=>h) (λa c=>M) x ?_;refine OL M ?_ _;go_simp
 go_wp2_with fail
 go_ret;exact⟨B,t,y,Z,C⟩
def Zn(k:Nat)(W:O)(L:Nat)(g:Gt)(D:g.rc.size=40)(i:A4)(b l:Nat)(q:Bool)(r:Except (Int×Int) (DataW Unit))(s:W.heap[L]?=U (E (Ck g (G i b l) q) 96))(z:∀c,A0 W c->Am X 18 #[I K g.inF,Ab #[I K g.depth,I K g.bytes],G i b l] c (He k c r)):Am X 33 #[A8 (U ⟨L,0,Y⟩)] W (L7 k W r):=by
 have a:Hid (A0 W (W.alloc (E #[A8 (U ⟨L,0,Y⟩)] 48))):=BN;have H:∀(b:Fn) (first p:A3) (w:O),(Instr.makeFunc b first p).run X w=.ok (.func b first p) w:=λ_ _ _ _=>rfl;have x:=lI k (W.alloc (E #[A8 (U ⟨L,0,Y⟩)] 48)) #[A8 (U ⟨W.heap.size,0,Y⟩)] r (by
  have h:Below (W.heap.size+1) (W.alloc (E #[A8 (U ⟨L,0,Y⟩)] 48)) (((W.alloc (E #[A8 (U ⟨L,0,Y⟩)] 48)).alloc (E #[I K 0] 31)).alloc (E #[I K 0] 3)):=((C5 _ _).alloc Az _).alloc Az _;have A:=BC s;refine nr k _ W.heap.size L g D i b l q r ((h.block _ J).trans (BI W _)) ((h.block L J).trans ((a.block L A).trans s)) (λc B=>z c ?_);exact(a.trans (h.mono J)).trans (B.mono Ax))
 have o:=x;rcases r with⟨F,N⟩|d
 ·go_enter func33,ntmps33
  go_wp2_with(first
   |(go_at_call 16;refine o.mono ?_;rintro e n ⟨m,hF⟩;obtain rfl:=hF;have f:=T (a.trans (m.mono a.size))))
  go_ret3
  exact⟨f,Z⟩
 go_enter func33,ntmps33
 go_wp2_with(first
  |(go_at_call 16;refine o.mono ?_;rintro e n ⟨m,hF⟩;obtain⟨t,y,rfl,C⟩:=hF;have f:=T (a.trans (m.mono a.size));have v:Hid (BQ k n (λj=>W.heap.size<=j/\j<n.heap.size) (Ad t y) d):=C.same (λj u=>⟨C7 a.size u.1,u.2⟩) (λ_ _=>rfl)))
 go_ret3
 exact⟨f,t,y,Z,v⟩
def N0(h:D8 c R N sts V)(ok:GL c)(j:Nat):V.cell? ⟨c.B,37+j,Y⟩=#[I K c.v.clr,I K c.v.key,A8 (U ⟨c.A,0,Y⟩),I K R.1,I K R.2.1,I K R.2.2.1,I K R.2.2.2][j]?:=by
 refine(BB h.box (37+j)).trans ?_;unfold DV;rw[Ng (by rw[ok.ord.size];omega),ok.ord.size,show 37+j-37=j by omega]
def ay(h:D8 c R N sts V):∀(j:Nat) (u:Al),c.O[j]?=U u->V.cell? ⟨c.B,0+j,Y⟩=U u:=by
 intro j u a;have b:j<c.O.size:=BC a;refine(BB h.box (0+j)).trans ?_;rw[DY];unfold DV;rw[Ov b];exact a
def RE(ok:GL c)(R:Cl)(j:Nat)(v:Al):(DV c R).setIfInBounds (37+j) v=c.O++#[I K c.v.clr,I K c.v.key,A8 (U ⟨c.A,0,Y⟩),I K R.1,I K R.2.1,I K R.2.2.1,I K R.2.2.2].setIfInBounds j v:=by
 unfold DV;apply Mu;have a:c.O.toList.length=37:=by simp[ok.ord.size]
 simp only[Ou,SB];rw[Q7 _ _ J,show 37+j-c.O.toList.length=j by omega]
def qb(ok:GL c):(prog.info? 84).map (·.size)=U c.O.size:=by rw[ok.ord.size];kernel_rfl
def UI{c:Rv}(a:c.m (DF c.dflt c.rs p.reverse).1.toNat c.clr=true):De c (k+1) p d R=(U (JZ (De c k) p d (R.1+1,R.2)).1,(JZ (De c k) p d (R.1+1,R.2)).2):=by rw[De,BA a]
def qc{c:Rv}(b:¬c.m (DF c.dflt c.rs p.reverse).1.toNat c.clr=true)(a:(DF c.dflt c.rs p.reverse).2=2):De c (k+1) p d R=(U (.lit (.string [42,42,42])),(R.1,R.2.1,R.2.2.1+1,R.2.2.2)):=by rw[De,Bz b,BA a]
def az{c:Rv}(b:¬c.m (DF c.dflt c.rs p.reverse).1.toNat c.clr=true)(a:(DF c.dflt c.rs p.reverse).2=3):De c (k+1) p d R=(U (.lit (.string (EM c.key (DF c.dflt c.rs p.reverse).1.toNat (CC (k+1) d)))),(R.1,R.2.1,R.2.2.1,R.2.2.2+1)):=by rw[De,Bz b,Bz (by rw[a];decide),BA a]
def qd{c:Rv}(e:¬c.m (DF c.dflt c.rs p.reverse).1.toNat c.clr=true)(a:¬(DF c.dflt c.rs p.reverse).2=2)(b:¬(DF c.dflt c.rs p.reverse).2=3):De c (k+1) p d R=(Y,(R.1,R.2.1+1,R.2.2.1,R.2.2.2)):=by rw[De,Bz e,Bz a,Bz b]
def qe(k:Nat)(d:A2):1<=DH (k+1) d:=by
 unfold DH;split<;>omega
def aA(D:A2->Prop)(c:Rc)(k:Nat)(p:List (A1×Bool)):Prop:=∀(W:Ak) (F:Nat->Prop) (x:Al) (d:A2) (f:Nat) (R:Cl) (N:Nat) (sts:List ((Nat->Nat)×Int×Int)) (_hD:D d) (_h:D8 c R N sts W) (_hf:IZ c sts f p) (_hF:∀j,F j->j<W.heap.size) (_hd:BQ (k+1) W F x d) (_hc:(CC (k+1) d).length<=999999999) (_hN:N+DH (k+1) d<=90001),Am prog 125 #[A8 (some ⟨c.B,0,none⟩),x,A6 Ag f] W (UH c (k+1) F (JZ (De c.v k) p d R) (N+DH (k+1) d-1) sts W)
def UJ(c:Rc)(ok:GL c)(k:Nat)(p:List (A1×Bool))(P:c.v.m (DF c.v.dflt c.v.rs p.reverse).1.toNat c.v.clr=true->aA D c k p):MZ D c (k+1) p:=by
 intro W F bj d ap R N o a5 h hf hF hd hc hN;have cV:=h.verdict ok hf;obtain⟨l,hl,a0⟩:=ok.lab p.reverse;rw[hl]at cV;obtain⟨L,Q⟩:∃L,Hid ((DF c.v.dflt c.v.rs p.reverse).2=L):=⟨_,rfl⟩
 rw[Q.out]at cV;obtain⟨ad,HB⟩:∃ad,Hid (c.v.m l c.v.clr=ad):=⟨_,rfl⟩
 have aa:Hid ((DF c.v.dflt c.v.rs p.reverse).1.toNat=l):=by show _=_;rw[hl];simp
 have cM:=λV=>eP c.O c.n c.v.m ok.ord ok.n6 l c.v.clr a0 ok.clr V;rw[HB.out]at cM;obtain⟨ae,af,rfl⟩:=hd.iface;have HR:Hid (D8 c R N o W):=h;have i:Hid (GL c):=ok;have a4:=aw h ok;have a9:=h.few;have be:=qe k d;have ac:Hid (∀V,ad=true->D8 c (R.1+1,R.2) (N+1) o V->CJ W V->Am X 125 #[A8 (U ⟨c.B,0,Y⟩),Ad ae af,I K ap] V (UH c (k+1) F (JZ (De c.v k) p d (R.1+1,R.2)) (N+1+DH (k+1) d-1) o V)):=λV a6 h1 s=>P (by rw[aa.out,HB.out,a6]) V F (Ad ae af) d ap (R.1+1,R.2) (N+1) o a5 h1 hf (λj y=>CA (hF j y) s.size) (hd.kept (λ_ h=>h) s) hc J;rw[show N+1+DH (k+1) d-1=N+DH (k+1) d by omega]at ac;have ax:8<c.W0.heap.size:=by
  have h0:=ok.tab;by_cases h:8<c.W0.heap.size
  ·exact h
  simp[World.cell?,h]at h0
 have b:Hid (∀V,Below c.W0.heap.size c.W0 V->CJ W V->Am X 126 #[I K c.v.key,I K l,Ad ae af] V λe W'=>e=.returned (A9 ⟨(EM c.v.key l (CC (k+1) d)).toArray⟩)/\A0 V W'):=λV h1 s=>jT c.v.key l (Ao ok.n6) (k+1) V F (Ad ae af) d (λj y=>CA (hF j y) s.size) (hd.kept (λ_ h=>h) s) hc ((h1.cell ax).trans ok.tab);have am:N+1<=N+DH (k+1) d:=J
 obtain⟨rr,f⟩:∃rr,Hid (De c.v (k+1) p d R=rr):=⟨_,rfl⟩
 rw[f.out];generalize hNE:N+DH (k+1) d=NE at *;clear h hf hF hd hc ok P hl a0 ax hNE;go_enter func90,ntmps90
 go_wp2_with(first
  |(go_at_call 123;refine cV.mono ?_;clear cV;rintro e w2 ⟨rfl,ai⟩;have ab:Hid (D8 c R N o (World.drew w2)):=HR.step ai.drew;have ao:Hid (CJ W (World.drew w2)):=CJ.of_below ai.drew;clear HR a4 ai))
 refine DA (S:=λH=>(∀(j:Nat) (u:Al),c.O[j]?=U u->H.cell? ⟨c.B,0+j,Y⟩=U u)/\H.cell? ⟨c.B,37,Y⟩=U (I K c.v.clr)) (⟨ay ab,N0 ab i 0⟩) M ?_;intro q;refine BE 0 20 (A8 (U ⟨c.B,0,Y⟩)) q ?_;refine BE 1 21 (A8 (U ⟨c.B,0,Y⟩)) q ?_;refine BE 2 22 (A8 (U ⟨c.B,0,Y⟩)) q ?_;refine BE 3 23 (A8 (U ⟨c.B,0,Y⟩)) q ?_;refine BL 4 24 (.agg c.O) Z (λH hZ=>?y4) q ?_
 case y4=>exact NZ 84 (.tmp 23) rfl c.B 0 rfl c.O _ hZ.1 underlying84 rfl (qb i)
 refine BE 5 25 (I K l) q ?_;refine BE 6 26 (A8 (U ⟨c.B,0,Y⟩)) q ?_;refine BE 7 27 (A8 (U ⟨c.B,0,Y⟩)) q ?_;refine BE 8 28 (A8 (U ⟨c.B,0,Y⟩)) q ?_;refine BE 9 29 (A8 (U ⟨c.B,37,Y⟩)) q ?_;refine BL 10 30 (I K c.v.clr) Z (λH hZ=>?y10) q ?_
 case y10=>(have z1:=hZ.2;go_simp)
 refine C9 11 (λa7 hK=>?_);go_simp;refine(cM _).mono ?_;clear cM;rintro e a ⟨rfl,aj⟩;simp only[];have r:=T (ab.step aj);have x:Hid (CJ W a):=ao.trans (CJ.of_below aj);have av:(λH:O=>(∀(j:Nat) (u:Al),c.O[j]?=U u->H.cell? ⟨c.B,0+j,Y⟩=U u)/\H.cell? ⟨c.B,37,Y⟩=U (I K c.v.clr)) a:=⟨ay r,N0 r i 0⟩
 refine hK.out _ _ av (λ_=>?_);clear hK ab ao aj q;refine Cv ?_;go_simp;clear av;have A:∀j,a.frozen? ⟨c.B,j,Y⟩=false:=λj=>Dx a c.B j _ _ r.box
 cases ad with
 |true =>
  have bf:a.cell? ⟨c.B,40,Y⟩=U (I K R.1):=N0 r i 3;have ba:=A 40;have z:rr=(U (JZ (De c.v k) p d (R.1+1,R.2)).1,(JZ (De c.v k) p d (R.1+1,R.2)).2):=f.symm.trans (UI (by rw[aa.out];exact HB));subst z;have g:D8 c (R.1+1,R.2) (N+1) o (a.setCell ⟨c.B,40,Y⟩ (I K ((R.1:Int)+1)))/\CJ a (a.setCell ⟨c.B,40,Y⟩ (I K ((R.1:Int)+1))):=r.count (R':=(R.1+1,R.2)) i 40 (R.1+1) (by rw[show 40=37+3 from Z,RE i.out];rfl) kfi;have cS:=ac.out _ Z g.1 (x.trans g.2);have w:Hid (CJ W (a.setCell ⟨c.B,40,Y⟩ (I K ((R.1:Int)+1)))):=x.trans g.2;clear g b ac A;generalize JZ (De c.v k) p d (R.1+1,R.2)=P at *
  go_wp2_with(first
   |(go_at_call 125;refine cS.mono ?_;clear cS;rintro e w4 ⟨v4,an,rfl,au,aq,ar,al⟩;obtain⟨t4,y4,rfl⟩:=al.iface;have C:Hid (D8 c P.2 NE an w4):=au;have a2:Hid (Gs o an):=ar;have ah:Hid (CJ W w4):=w.trans aq;have a1:Hid (BQ (k+1) w4 (λj=>F j\/(W.heap.size<=j/\j<w4.heap.size)) (Ad t4 y4) P.1):=al.same (λj y=>y.imp id (λh=>⟨C7 w.size h.1,h.2⟩)) (λ_ _=>rfl);clear au aq ar al))
  refine Cc (KT results90 _ _ _) Z ?_;exact⟨_,an,Z,C,ah,a2,λh=>keT,λd' h=>by
   have t:P.1=d':=EB h;rw[<-t];exact a1⟩
 |false =>
  have ag:Hid (¬c.v.m (DF c.v.dflt c.v.rs p.reverse).1.toNat c.v.clr=true):=by show¬_;rw[aa.out,HB.out];decide
  clear ac;by_cases s:L=2
  ·subst s;have bh:a.cell? ⟨c.B,42,Y⟩=U (I K R.2.2.1):=N0 r i 5;have bc:=A 42;have z:=f.symm.trans (qc ag Q);subst z;have g:D8 c (R.1,R.2.1,R.2.2.1+1,R.2.2.2) (N+1) o (a.setCell ⟨c.B,42,Y⟩ (I K ((R.2.2.1:Int)+1)))/\CJ a (a.setCell ⟨c.B,42,Y⟩ (I K ((R.2.2.1:Int)+1))):=r.count (R':=(R.1,R.2.1,R.2.2.1+1,R.2.2.2)) i 42 (R.2.2.1+1) (by rw[show 42=37+5 from Z,RE i.out];rfl) kfi;have w:Hid (CJ W (a.setCell ⟨c.B,42,Y⟩ (I K ((R.2.2.1:Int)+1)))):=x.trans g.2;have C:Hid (D8 c (R.1,R.2.1,R.2.2.1+1,R.2.2.2) NE o (a.setCell ⟨c.B,42,Y⟩ (I K ((R.2.2.1:Int)+1)))):=g.1.more am;clear g b A
   go_wp2_with fail
   refine Cc (KT results90 _ _ _) Z ?_;exact⟨_,o,Z,C,w,Gs.refl _,λh=>keT,λd' h=>by
    have t:=EB h;rw[<-t];rfl⟩
  by_cases h3:L=3
  ·subst h3;have bi:a.cell? ⟨c.B,43,Y⟩=U (I K R.2.2.2):=N0 r i 6;have bd:=A 43;have z:=f.symm.trans (az ag Q);rw[aa.out]at z;subst z;have g:D8 c (R.1,R.2.1,R.2.2.1,R.2.2.2+1) (N+1) o (a.setCell ⟨c.B,43,Y⟩ (I K ((R.2.2.2:Int)+1)))/\CJ a (a.setCell ⟨c.B,43,Y⟩ (I K ((R.2.2.2:Int)+1))):=r.count (R':=(R.1,R.2.1,R.2.2.1,R.2.2.2+1)) i 43 (R.2.2.2+1) (by rw[show 43=37+6 from Z,RE i.out];rfl) kfi;have w:Hid (CJ W (a.setCell ⟨c.B,43,Y⟩ (I K ((R.2.2.2:Int)+1)))):=x.trans g.2;have C:Hid (D8 c (R.1,R.2.1,R.2.2.1,R.2.2.2+1) NE o (a.setCell ⟨c.B,43,Y⟩ (I K ((R.2.2.2:Int)+1)))):=g.1.more am;have a8:(a.setCell ⟨c.B,43,Y⟩ (I K ((R.2.2.2:Int)+1))).cell? ⟨c.B,38,Y⟩=U (I K c.v.key):=N0 g.1 i 1;have cG:=b.out _ g.1.below w;clear g b A s;generalize EM c.v.key l (CC (k+1) d)=tg at *
   go_wp2_with(first
    |(go_at_call 126;refine cG.mono ?_;clear cG;rintro e w5 ⟨rfl,ak⟩;have a3:=T (C.step ak);have ah:Hid (CJ W w5):=w.trans (CJ.of_below ak);clear ak))
   refine Cc (KT results90 _ _ _) Z ?_;exact⟨_,o,Z,a3,ah,Gs.refl _,λh=>keT,λd' h=>by
    have t:=EB h;rw[<-t];rfl⟩
  have bg:a.cell? ⟨c.B,41,Y⟩=U (I K R.2.1):=N0 r i 4;have bb:=A 41;have e2:(L==2)=false:=ke2
  have e3:(L==3)=false:=by simpa using h3
  have z:=f.symm.trans (qd ag (Q.symm▸s) (Q.symm▸h3));subst z;have g:D8 c (R.1,R.2.1+1,R.2.2.1,R.2.2.2) (N+1) o (a.setCell ⟨c.B,41,Y⟩ (I K ((R.2.1:Int)+1)))/\CJ a (a.setCell ⟨c.B,41,Y⟩ (I K ((R.2.1:Int)+1))):=r.count (R':=(R.1,R.2.1+1,R.2.2.1,R.2.2.2)) i 41 (R.2.1+1) (by rw[show 41=37+4 from Z,RE i.out];rfl) kfi;have w:Hid (CJ W (a.setCell ⟨c.B,41,Y⟩ (I K ((R.2.1:Int)+1)))):=x.trans g.2;have C:Hid (D8 c (R.1,R.2.1+1,R.2.2.1,R.2.2.2) NE o (a.setCell ⟨c.B,41,Y⟩ (I K ((R.2.1:Int)+1)))):=g.1.more am;clear g b A s h3
  go_wp2_with fail
  refine Cc (KT results90 _ _ _) Z ?_;exact⟨_,o,Z,C,w,Gs.refl _,λ_=>rfl,λd' h=>AU⟩
def aB{fn:Func}{p u:Tmp}{ty:TypeId}(h:fn.results=#[.tmp u,.cell p ty])(b:A3)(w:O)(g:Nat)(t:TypeId)(cs:A3)(c:Nat×Nat)(d:TypeDesc)(j:b.getD p undef=A8 (U ⟨g,0,Y⟩))(i:w.heap[g]?=U (E cs t c))(k:P.underlying ty=U d)(f:(match d with|.struct _|.array _ _=>true|_=>false)=true)(hi:(P.info? ty).map (·.size)=U cs.size)(v:Al)(l:b.getD u undef=v):(results fn b).run P w=.ok (Aa #[v,.agg cs]) w:=by
 have e:(results fn b).run P w=((asAddr (b.getD p undef)).run P w).andThen λa m=>((loadVar ty a).run P m).andThen λv n=>.ok (Aa #[b.getD u undef,v]) n:=by
  simp only[results,h];simp[Ei,Result.andThen]
 subst l;rw[e,j];simp only[asAddr,Fq,EA,I5 w g t ty cs c d i k f hi]
def FZ(c:Rc):A3:=c.O++#[A6 Ag c.v.clr,A6 Ag c.v.key,A8 (some ⟨c.A,0,none⟩)]
def C4(R:Cl):A3:=#[A6 Ag R.1,A6 Ag R.2.1,A6 Ag R.2.2.1,A6 Ag R.2.2.2]
def Ii:A3:=Cp 0 (λ_ _=>false)++#[A6 Ag 0,A6 Ag 0,A8 none,A6 Ag 0,A6 Ag 0,A6 Ag 0,A6 Ag 0]
def qf(ρ:Operand->Al)(o:Oper)(a:o.op=.alloc 191)(w:O):(execOp ρ o).run X w=.ok (.value (A8 (U ⟨w.heap.size,0,Y⟩))) (w.alloc (E Ii 191)):=by
 unfold execOp;rw[a];kernel_rfl
def qg{ops:Array Oper}{rest:List Oper}(e:o.guard=Y)(f:o.op=.alloc 191)(d:Option Tmp)(c:o.dst=d)(N:Nat)(b:w.heap.size=N)(h:wpList X ops Q rest (a.put d (A8 (U ⟨N,0,Y⟩))) (w.alloc (E Ii 191))):wpList X ops Q (o::rest) a w:=by
 subst b;exact Q8 e d c _ _ (qf _ _ f _) h
def qh(n:Nat)(m:Nat->Nat->Bool)(x y:Int)(p:A4):prog.built 191 [(0,.agg (Cp n m++#[I K x,I K y,.pointer p]))]=U (Cp n m++#[I K x,I K y,.pointer p,I K 0,I K 0,I K 0,I K 0]):=M
def qi(h:A.size=40):(prog.info? 93).map (·.size)=U A.size:=keX
def qj(h:A.size=44):(prog.info? 191).map (·.size)=U A.size:=keX
def G0(R:Cl):(prog.info? 30).map (·.size)=U (C4 R).size:=M
def qk{F:Nat->Prop}{v:Al}(h:BQ k V F v d):BQ k {V with drawn:=V.drawn+1} F v d:=by
 have a:∀j,F j->({V with drawn:=V.drawn+1}:O).heap[j]?=V.heap[j]?:=λ_ _=>rfl;exact BQ.same (λ_ h=>h) a h
def ql(c:Rc)(k:Nat)(F:Nat->Prop)(r:Option (DataW Unit)×Cl)(W:Ak)(e:Ending)(V':Ak):Prop :=
 ∃t y,e=.returned (Aa #[Ad t y,.agg (C4 r.2)])/\CJ W V'/\Below c.W0.heap.size c.W0 V'/\(∀j,j<W.heap.size->j≠c.A->j≠c.q.nb->j≠c.q.mb->some j≠c.own0->V'.heap[j]?=W.heap[j]?)/\BQ k V' (λj=>F j\/(W.heap.size<=j/\j<V'.heap.size)) (Ad t y) (r.1.getD .nil)
def qm(c:Rc)(ok:GL c)(hO:c.O=Cp c.n c.v.m)(W:O)(hG:c.G=W)(hB:c.B=W.heap.size+2)(k:Nat)(bi:MZ D c k [])(F:Nat->Prop)(x:Al)(d:A2)(bh:D d)(N:Nat)(L:List ((Nat->Nat)×Int×Int))(sa:A4)(sc:Nat)(nf:Lit->Option Nat)(mn:Nat)(mf:Lit->Option Nat)(hA:CZ c.W0 c.A c.q L (G sa L.length sc) nf mn mf W)(hM:MV c.q L mf)(a9:mn<=N)(ba:L.length<=N+1)(ho:(Value.slice sa L.length sc).ownBlock=c.own0)(hs:IZ c L 0 [])(hF:∀j,F j->j<W.heap.size)(hd:BQ k W F x d)(hc:(CC k d).length<=999999999)(hN:N+DH k d<=90000):Am X 59 #[.agg (FZ c),x] W (ql c k F (De c.v k [] d (0,0,0,0)) W):=by
 have ak:DV c (0,0,0,0)=Cp c.n c.v.m++#[I K c.v.clr,I K c.v.key,A8 (U ⟨c.A,0,Y⟩),I K 0,I K 0,I K 0,I K 0]:=by unfold DV;rw[hO];rfl
 have am:Hid (prog.built 191 [(0,.agg (FZ c))]=U (DV c (0,0,0,0))):=by show _=_;rw[ak];unfold FZ;rw[hO];exact qh _ _ _ _ _
 have au:Hid ((FZ c).size=40):=by show _=_;unfold FZ;rw[hO,SJ,Cr];rfl
 have av:Hid ((DV c (0,0,0,0)).size=44):=an ok _;have aw:Hid (Ii.size=(DV c (0,0,0,0)).size):=by show _=_;rw[an ok,Ii,SJ,Cr];rfl
 have ax:Hid ((DV c (0,0,0,0)).all (·.oneCell')=true):=by show _=_;rw[ak,Qi,Ut];simp[Value.oneCell']
 have ae:Hid (∀V,A0 W V->V.heap[W.heap.size+2]?=U (E (DV c (0,0,0,0)) 191)->Am X 90 #[A8 (U ⟨W.heap.size+2,0,Y⟩),x,I K 0] V (ap c k F (De c.v k [] d (0,0,0,0)) (N+DH k d) L V)):=λV H h2=>by
  have:=bi V F x d 0 (0,0,0,0) N L bh ⟨by rw[hB];exact h2,⟨sa,sc,nf,mn,mf,hA.next H,hM,a9,ba,.inl ho⟩,⟨by rw[hG];exact H.size,λj a _ _ _ _=>by rw[hG];exact H.block j (hG▸a)⟩,DK _⟩ hs (λj g=>CA (hF j g) H.size) (hd.same (λ_ h=>h) (λj g=>H.block j (hF j g))) hc hN;rw[hB]at this;exact this
 have a8:∀V aa,BQ k V aa (Ad 195 (Ab #[])) .nil:=λV aa=>by
  cases k with
  |zero=>exact hd.elim
  |succ k=>rfl
 obtain⟨t,bm,rfl⟩:=hd.iface;have HF:Hid (∀j,F j->j<W.heap.size):=hF;have bj:c.W0.heap.size<=W.heap.size+1:=OC hA.below.size;clear hA hM a9 ba ho hs hF hd hc hN ak;obtain⟨⟨ad,R⟩,hr⟩:∃bl,De c.v k [] d (0,0,0,0)=bl:=⟨_,rfl⟩
 rw[hr]at ae ⊢;clear hr;have a6:Hid (((W.alloc (E (FZ c) 93)).alloc (E #[I K 0,I K 0,I K 0,I K 0] 30)).heap[W.heap.size]?=U (E (FZ c) 93)):=(BT _ _ _ Az).trans (BI W _);have af:Hid ((((W.alloc (E (FZ c) 93)).alloc (E #[I K 0,I K 0,I K 0,I K 0] 30)).alloc (E Ii 191)).heap[W.heap.size+2]?=U (E Ii 191)):=by
  have h:=BI ((W.alloc (E (FZ c) 93)).alloc (E #[I K 0,I K 0,I K 0,I K 0] 30)) (E Ii 191);show _=_;rw[BU,BU]at h;exact h
 have ao:Hid (A0 W (((W.alloc (E (FZ c) 93)).alloc (E #[I K 0,I K 0,I K 0,I K 0] 30)).alloc (E Ii 191))):=((BN).alloc Az _).alloc Ax _;have a7:Hid ((((W.alloc (E (FZ c) 93)).alloc (E #[I K 0,I K 0,I K 0,I K 0] 30)).alloc (E Ii 191)).heap[W.heap.size+1]?=U (E (C4 (0,0,0,0)) 30)):=by
  have h:=BI (W.alloc (E (FZ c) 93)) (E #[I K 0,I K 0,I K 0,I K 0] 30);show _=_;rw[BU]at h;exact(BT _ _ _ Az).trans h
 go_enter func59,ntmps59
 go_wp2_with(first
  |(refine qg Z Z _ Z (W.heap.size+2) ?hN ?_;case hN=>(simp only[BU,A0];done))
  |(refine C8 Z 93 _ Z W.heap.size Z _ _ _ _ a6 underlying93 Z (qi au) ?_)
  |(refine Co Z 191 _ _ Z (W.heap.size+2) (DV c (0,0,0,0)) Z Z 191 Ii af (qj av) aw ax ?_)
  |(refine Gb Z 191 _ Z _ Z _ [(0,.agg (FZ c))] ?hl am ?_;case hl=>simp[go_sem]))
 have az:Hid (A0 W ((((W.alloc (E (FZ c) 93)).alloc (E #[I K 0,I K 0,I K 0,I K 0] 30)).alloc (E Ii 191)).setRow (W.heap.size+2) (DV c (0,0,0,0)))):=CF ao J _;have bd:Hid (((((W.alloc (E (FZ c) 93)).alloc (E #[I K 0,I K 0,I K 0,I K 0] 30)).alloc (E Ii 191)).setRow (W.heap.size+2) (DV c (0,0,0,0))).heap[W.heap.size+2]?=U (E (DV c (0,0,0,0)) 191)):=Ca _ _ _ _ _ _ af;have be:Hid (((((W.alloc (E (FZ c) 93)).alloc (E #[I K 0,I K 0,I K 0,I K 0] 30)).alloc (E Ii 191)).setRow (W.heap.size+2) (DV c (0,0,0,0))).heap[W.heap.size+1]?=U (E (C4 (0,0,0,0)) 30)):=sx J a7;have bf:Hid (W.heap.size+3<=((((W.alloc (E (FZ c) 93)).alloc (E #[I K 0,I K 0,I K 0,I K 0] 30)).alloc (E Ii 191)).setRow (W.heap.size+2) (DV c (0,0,0,0))).heap.size):=by show _<=_;simp
 generalize(((W.alloc (E (FZ c) 93)).alloc (E #[I K 0,I K 0,I K 0,I K 0] 30)).alloc (E Ii 191)).setRow (W.heap.size+2) (DV c (0,0,0,0))=V at *;clear a6 af a7 ao am au av aw ax;have cR:=ae.out V az bd;clear ae;have a0:Hid (c.W0.heap.size<=W.heap.size+1):=bj;have ar:Hid (GL c):=ok;have HG:Hid (c.G=W):=hG;have HB:Hid (c.B=W.heap.size+2):=hB;clear ok hG hB hO;obtain⟨N4,bb⟩:∃N4,Hid (N+DH k d=N4):=⟨_,rfl⟩
 rw[bb.out]at cR;have bc:Hid (∀V aa,BQ k V aa (Ad 195 (Ab #[])) .nil):=a8;have ab:Am X 90 #[A8 (U ⟨W.heap.size+2,0,Y⟩),Ad t bm,I K 0] V λac i=>∃v',ac=.returned (Aa #[v',.bool ad.isSome])/\Hid (i.heap[W.heap.size+2]?=U (E (DV c R) 191))/\Hid (i.heap[W.heap.size+1]?=U (E (C4 (0,0,0,0)) 30))/\Hid (CJ W i)/\Hid (Below c.W0.heap.size c.W0 i)/\Hid (∀j,j<W.heap.size->j≠c.A->j≠c.q.nb->j≠c.q.mb->U j≠c.own0->i.heap[j]?=W.heap[j]?)/\(ad=Y->v'=.nilIface)/\∀C,ad=U C->BQ k i (λj=>F j\/(W.heap.size+3<=j/\j<i.heap.size)) v' C:=cR.mono (by
  rintro ac i ⟨v',bn,rfl,H,h2,h3,h4,h5⟩;refine⟨v',Z,?_,h2.row _ _ _ _ be Ay Ay Ay,(CJ.of_below az).trans h2,H.below,λj y b u e o=>?_,h4,λC bk=>(h5 C bk).same (λj g=>g.imp id (λh=>⟨C7 bf h.1,h.2⟩)) (λ_ _=>rfl)⟩
  ·have:=H.box;rw[HB.out]at this;exact this
  have:=H.fr.2 j (by rw[HG.out];exact y) b u e o;rw[HG.out]at this;exact this)
 clear cR a8;have aq:Hid (∀(i:O),i.heap[W.heap.size+2]?=U (E (DV c R) 191)->∀(j:Nat) (al:Al),(C4 R)[j]?=U al->i.cell? ⟨W.heap.size+2,40+j,Y⟩=U al):=λi h j al w=>by
  refine(BB h (40+j)).trans ?_;unfold DV;rw[Ng (by rw[ar.ord.size];omega),ar.ord.size,show 40+j-37=j+3 by omega];have g:j<4:=BC w
  match j,g,w with
  |0,_,w=>exact w
  |1,_,w=>exact w
  |2,_,w=>exact w
  |3,_,w=>exact w
 have ay:Hid (∀R:Cl,(C4 R).all (·.oneCell')=true):=λR=>by simp[C4,Value.oneCell']
 cases ad with
 |none =>
  go_wp2_with(first
   |(go_at_call 90;refine ab.mono ?_;clear ab;rintro ac f ⟨v4,rfl,r,z,l,P,Q,h6,_⟩;obtain rfl:=h6 rfl;clear h6;simp only[WB]))
  refine DA (S:=λp=>p.heap[W.heap.size+2]?=U (E (DV c R) 191)) (r) M ?_;intro s;have z:Hid (({f with drawn:=f.drawn+1}:O).heap[W.heap.size+1]?=U (E (C4 (0,0,0,0)) 30)):=z;have l:Hid (CJ W {f with drawn:=f.drawn+1}):=⟨l.size,l.row⟩
  have P:Hid (Below c.W0.heap.size c.W0 {f with drawn:=f.drawn+1}):=P.drew;have Q:Hid (∀j,j<W.heap.size->j≠c.A->j≠c.q.nb->j≠c.q.mb->U j≠c.own0->({f with drawn:=f.drawn+1}:O).heap[j]?=W.heap[j]?):=Q;clear r;generalize({f with drawn:=f.drawn+1}:O)=w5 at *;refine BE 0 20 (Ad 195 (Ab #[])) s ?_;refine BE 1 21 (A8 (U ⟨W.heap.size+2,40,Y⟩)) s ?_;refine BL 2 22 (.agg (C4 R)) Z (λp hZ=>?y2) s ?_
  case y2=>exact NZ 30 (.tmp 21) rfl (W.heap.size+2) 40 rfl (C4 R) _ (aq p hZ) underlying30 rfl (G0 R)
  refine BE 3 4 (Ad 195 (Ab #[])) s ?_;have ai:(λp:O=>p.heap[W.heap.size+2]?=U (E (DV c R) 191)) (World.setRow w5 (W.heap.size+1) (C4 R)):=sx J s;refine C9 4 (λbg hK=>?_);refine Kw M ?_;refine Hp 30 (.tmp 5) (.tmp 22) Z (W.heap.size+1) (C4 R) Z Z 30 (C4 (0,0,0,0)) z (G0 R) Z (ay R) ?_;refine hK.out _ _ ai (λ_=>?_);clear hK;refine Cv ?_;go_simp
  go_wp2_with fail
  refine Cc (aB results59 _ _ (W.heap.size+1) 30 (C4 R) (0,0) _ Z (Ca _ _ _ _ _ _ z) underlying30 Z (G0 R) _ Z) Z ?_;have ah:CJ W (World.setRow w5 (W.heap.size+1) (C4 R)):=⟨keR,λj cs t fr a ag c d=>(CQ _ _ _ _ (Ao (BC a))).trans (l.row j cs t fr a ag c d)⟩
  have aj:c.W0.heap.size<=W.heap.size+1:=a0.out;refine⟨_,_,Z,ah,CF P aj _,λj y b u e o=>sx J (Q j y b u e o),?_⟩;exact bc _ _
 |some C =>
  go_wp2_with(first
   |(go_at_call 90;refine ab.mono ?_;clear ab;rintro ac f ⟨v4,rfl,r,z,l,P,Q,_,h7⟩;obtain⟨t4,y4,rfl⟩:=(h7 C rfl).iface;have H7:Hid (BQ k f (λj=>F j\/(W.heap.size+3<=j/\j<f.heap.size)) (Ad t4 y4) C):=h7 C Z;clear h7;simp only[WC]))
  refine DA (S:=λp=>p.heap[W.heap.size+2]?=U (E (DV c R) 191)) (r) M ?_;intro s;have z:Hid (({f with drawn:=f.drawn+1}:O).heap[W.heap.size+1]?=U (E (C4 (0,0,0,0)) 30)):=z;have l:Hid (CJ W {f with drawn:=f.drawn+1}):=⟨l.size,l.row⟩
  have P:Hid (Below c.W0.heap.size c.W0 {f with drawn:=f.drawn+1}):=P.drew;have Q:Hid (∀j,j<W.heap.size->j≠c.A->j≠c.q.nb->j≠c.q.mb->U j≠c.own0->({f with drawn:=f.drawn+1}:O).heap[j]?=W.heap[j]?):=Q;have H7:Hid (BQ k {f with drawn:=f.drawn+1} (λj=>F j\/(W.heap.size+3<=j/\j<({f with drawn:=f.drawn+1}:O).heap.size)) (Ad t4 y4) C):=qk H7;clear r;generalize({f with drawn:=f.drawn+1}:O)=w5 at *;refine BE 0 20 (Ad t4 y4) s ?_;refine BE 1 21 (A8 (U ⟨W.heap.size+2,40,Y⟩)) s ?_;refine BL 2 22 (.agg (C4 R)) Z (λp hZ=>?y2) s ?_
  case y2=>exact NZ 30 (.tmp 21) rfl (W.heap.size+2) 40 rfl (C4 R) _ (aq p hZ) underlying30 rfl (G0 R)
  refine BE 3 4 (Ad t4 y4) s ?_;have ai:(λp:O=>p.heap[W.heap.size+2]?=U (E (DV c R) 191)) (World.setRow w5 (W.heap.size+1) (C4 R)):=sx J s;refine C9 4 (λbg hK=>?_);refine Kw M ?_;refine Hp 30 (.tmp 5) (.tmp 22) Z (W.heap.size+1) (C4 R) Z Z 30 (C4 (0,0,0,0)) z (G0 R) Z (ay R) ?_;refine hK.out _ _ ai (λ_=>?_);clear hK;refine Cv ?_;go_simp
  go_wp2_with fail
  refine Cc (aB results59 _ _ (W.heap.size+1) 30 (C4 R) (0,0) _ Z (Ca _ _ _ _ _ _ z) underlying30 Z (G0 R) _ Z) Z ?_;have ah:CJ W (World.setRow w5 (W.heap.size+1) (C4 R)):=⟨keR,λj cs t fr a ag c d=>(CQ _ _ _ _ (Ao (BC a))).trans (l.row j cs t fr a ag c d)⟩
  have aj:c.W0.heap.size<=W.heap.size+1:=a0.out;refine⟨_,_,Z,ah,CF P aj _,λj y b u e o=>sx J (Q j y b u e o),?_⟩;exact H7.same (λj g=>g.imp id (λh=>⟨J,by simpa using h.2⟩)) (λj g=>CQ _ _ _ _ (by
   rcases g with g|g
   ·have:=HF.out j g;omega
   omega))
def Wd(W:O)(a v:Int)(b:UInt8)(d:(a=0/\v=246)\/(a=1/\v=244)\/(a=2/\v=245))(hb:(b.toNat:Int)=v):Am X 49 #[.agg (BJ a 0 ⟨#[]⟩ BV BV)] W (I1 [b] W):=by
 have c:=eE (W.alloc (E (BJ a 0 ⟨#[]⟩ BV BV) 74)) v b hb.symm;rw[show(W.alloc (E (BJ a 0 ⟨#[]⟩ BV BV) 74)).heap.size=W.heap.size+1 by simp]at c;unfold BJ BV at *;rcases d with⟨rfl,rfl⟩|⟨rfl,rfl⟩|⟨rfl,rfl⟩
 all_goals
  go_enter func49,ntmps49;go_wp2;go_ret;exact⟨Z,(BN).alloc Az _⟩
def vX(W:O)(z:Int)(i : -9223372036854775808<=z)(j:z<=9223372036854775807):Am X 49 #[.agg (BJ 3 z ⟨#[]⟩ BV BV)] W (I1 (Hb z) W):=by
 obtain⟨R,a⟩:∃R,Hid (Hb z=R):=⟨_,show _=_ from rfl⟩
 have d:Hid (GR W (BJ 3 z ⟨#[]⟩ BV BV) (W.alloc (E (BJ 3 z ⟨#[]⟩ BV BV) 74))):=Q1 _ _;by_cases f:z<0
 ·have c:∀V,Am X 74 #[I K 1,I K (-1-z)] V (I1 R V):=λV=>by
   have h:=Oq V 1 (-1-z).toNat Ay J;rw[show(((-1-z).toNat:Nat):Int) = -1-z by omega]at h;rw[<-a.out];unfold Hb;rw[BA f];exact h
  rw[a.out];unfold BJ BV at *;go_enter func49,ntmps49
  go_wp2_with(first|(go_at_call 74;refine(c _).mono ?_;rintro e g ⟨rfl,b⟩))
  go_ret;exact⟨rfl,(d.next b).below⟩
 have c:∀V,Am X 74 #[I K 0,I K z] V (I1 R V):=λV=>by
  have h:=Oq V 0 z.toNat Ay J;rw[show((z.toNat:Nat):Int)=z by omega]at h;rw[<-a.out];unfold Hb;rw[Bz f];exact h
 rw[a.out];unfold BJ BV at *;go_enter func49,ntmps49
 go_wp2_with(first|(go_at_call 74;refine(c _).mono ?_;rintro e g ⟨rfl,b⟩))
 go_ret;exact⟨rfl,(d.next b).below⟩
def eG(W:O)(l:A1)(q:l.length<=999999999):Am X 49 #[.agg (BJ 4 0 ⟨l.toArray⟩ BV BV)] W (I1 (BW 3 l.length++l) W)/\Am X 49 #[.agg (BJ 5 0 ⟨l.toArray⟩ BV BV)] W (I1 (BW 2 l.length++l) W):=by
 have g:∀m,Hid (GR W (BJ m 0 ⟨l.toArray⟩ BV BV) (W.alloc (E (BJ m 0 ⟨l.toArray⟩ BV BV) 74))):=λm=>Q1 _ _;have c:=λV s (o:s<=7)=>Oq V s l.length o J;have h:∀s,¬((BW s l.length).length+l.length>9223372036854775807):=λs=>by
  have:(BW s l.length).length<=9:=by
   unfold BW
   repeat' split
   all_goals simp[Sk]
  omega
 constructor
 ·replace g:=g 4
  replace c:=λV=>c V 3 Ay
  replace h:=h 3
  unfold BJ BV at *;go_enter func49,ntmps49
  go_wp2_with fail
  generalize W.alloc (E #[I K 4,I K 0,A9 ⟨l.toArray⟩,G Y 0 0,G Y 0 0] 74)=V0 at *;refine DA (S:=GR W #[I K 4,I K 0,A9 ⟨l.toArray⟩,G Y 0 0,G Y 0 0]) g.drew M ?_;intro a;refine BE 0 35 (A8 (U ⟨W.heap.size,2,Y⟩)) a ?_;refine BL 1 36 (A9 ⟨l.toArray⟩) Z (λf b=>?y1) a ?_
  case y1=>(have k:=BB b.box 2;go_simp)
  refine BL 2 37 (I K l.length) Z (λf b=>?y2) a ?_
  case y2=>go_simp
  refine BE 4 39 (A8 (U ⟨W.heap.size,2,Y⟩)) a ?_;refine BL 5 40 (A9 ⟨l.toArray⟩) Z (λf b=>?y3) a ?_
  case y3=>(have k:=BB b.box 2;go_simp)
  refine C9 3 (λn j=>?_);go_simp;refine(c _).mono ?_;rintro e p ⟨rfl,i⟩;have d:=a.next i
  refine j.out _ _ d (λ_=>?_);refine BL 6 41 (D6 (BW 3 l.length++l)) Z (λf b=>?y4) d ?_
  case y4=>(unfold D6;go_simp;exact JB _ _)
  refine BE 7 2 (D6 (BW 3 l.length++l)) d ?_;refine Cv ?_;go_wp2;go_ret;exact⟨Z,d.below⟩
 replace g:=g 5
 replace c:=λV=>c V 2 Ay
 replace h:=h 2
 unfold BJ BV at *;go_enter func49,ntmps49
 go_wp2_with fail
 generalize W.alloc (E #[I K 5,I K 0,A9 ⟨l.toArray⟩,G Y 0 0,G Y 0 0] 74)=V0 at *;refine DA (S:=GR W #[I K 5,I K 0,A9 ⟨l.toArray⟩,G Y 0 0,G Y 0 0]) g.drew M ?_;intro a;refine BE 0 44 (A8 (U ⟨W.heap.size,2,Y⟩)) a ?_;refine BL 1 45 (A9 ⟨l.toArray⟩) Z (λf b=>?y1) a ?_
 case y1=>(have k:=BB b.box 2;go_simp)
 refine BL 2 46 (I K l.length) Z (λf b=>?y2) a ?_
 case y2=>go_simp
 refine BE 4 48 (A8 (U ⟨W.heap.size,2,Y⟩)) a ?_;refine BL 5 49 (A9 ⟨l.toArray⟩) Z (λf b=>?y3) a ?_
 case y3=>(have k:=BB b.box 2;go_simp)
 refine C9 3 (λn j=>?_);go_simp;refine(c _).mono ?_;rintro e p ⟨rfl,i⟩;have d:=a.next i
 refine j.out _ _ d (λ_=>?_);refine BL 6 50 (D6 (BW 2 l.length++l)) Z (λf b=>?y4) d ?_
 case y4=>(unfold D6;go_simp;exact JB _ _)
 refine BE 7 2 (D6 (BW 2 l.length++l)) d ?_;refine Cv ?_;go_wp2;go_ret;exact⟨Z,d.below⟩
def vY(k:Nat)(W:O)(F:Nat->Prop)(u:Al)(xs:List Al)(ds:List (DataW Unit))(f:A2->A1)(hF:∀j,F j->j<W.heap.size)(hr:Dj W 74 5 F u ds.length xs)(ha:∀(i:Nat) (d:A2),ds[i]?=U d->∃a,Hj xs i a/\CM k W F (.agg a) d)(h:(BW 4 ds.length++ds.flatMap f).length<=999999999)(ih:∀(V:O) (a:A3) (d:A2),(∀j,F j->j<V.heap.size)->CM k V F (.agg a) d->(f d).length<=999999999->Am X 49 #[.agg a] V (I1 (f d) V)):Am X 49 #[.agg (BJ 6 0 ⟨#[]⟩ BV u)] W (I1 (BW 4 ds.length++ds.flatMap f) W):=by
 obtain⟨hn,a,D,rfl,HC⟩:=eF hr;have l:Hid (GR W (BJ 6 0 ⟨#[]⟩ BV (G a ds.length D)) (W.alloc (E (BJ 6 0 ⟨#[]⟩ BV (G a ds.length D)) 74))):=Q1 _ _;have c:=λV=>Oq V 4 ds.length Ay hn;obtain⟨n,S⟩:∃n,ds.length=n:=⟨_,rfl⟩
 obtain⟨b,P⟩:∃b,Hid (BW 4 ds.length=b):=⟨_,show _=_ from rfl⟩
 have aa:Hid (∀i,i<n->∃d g v z s t w x y B C,ds[i]?=U d/\a=U ⟨g,0,Y⟩/\(∀V,A0 W V->(V.cell? ⟨g,i*5,Y⟩=U (I K v)/\V.cell? ⟨g,i*5+1,Y⟩=U (I K z)/\V.cell? ⟨g,i*5+2,Y⟩=U (.string s)/\V.cell? ⟨g,i*5+3,Y⟩=U (G t w x)/\V.cell? ⟨g,i*5+4,Y⟩=U (G y B C))/\Am X 49 #[Ab #[I K v,I K z,.string s,G t w x,G y B C]] V (I1 (f d) V))):=λi hi=>by
  obtain⟨d,m⟩:∃d,ds[i]?=U d:=⟨_,C6 J⟩
  obtain⟨ah,hs,R⟩:=ha i d m;obtain⟨v,z,s,t,w,x,y,B,C,e⟩:=R.shape;injection e with e;subst e;obtain⟨g,ea,r,q⟩:=HC i _ J hs;have ae:(f d).length<=999999999:=by
   have H:=Sl f ds i d m;have h2:=Sm f ds (i+1);rw[H,BK]at h2;rw[BK]at h;omega
  refine⟨d,g,v,z,s,t,w,x,y,B,C,m,ea,λV L=>⟨?_,ih V _ d (λj N=>CA (hF j N) L.size) (R.same (λ_ ab=>ab) (λj N=>L.block j (hF j N))) ae⟩⟩;have p:=L.block g (hF g r);exact⟨q V p 0 Ay,q V p 1 Ay,q V p 2 Ay,q V p 3 Ay,q V p 4 Ay⟩
 have HL:Hid (∀i,(b++(ds.take i).flatMap f).length<=999999999):=λi=>by
  have:=Sm f ds i;rw[<-P.out];rw[BK]at h ⊢;omega
 have HT:Hid (ds.flatMap f=(ds.take n).flatMap f):=by show _=_;rw[<-S,LG]
 rw[HT.out];rw[P.out]at c ⊢;rw[S]at c l hn ⊢;have HS:Hid (∀i d,ds[i]?=U d->b++(ds.take (i+1)).flatMap f=(b++(ds.take i).flatMap f)++f d):=λi d m=>by rw[Sl f ds i d m,CN]
 unfold BJ BV at *;go_enter func49,ntmps49
 go_wp2_with(first|(go_at_call 74;refine(c _).mono ?_;rintro e w2 ⟨rfl,ac⟩;unfold D6))
 go_loopg[3,4] n (λg zs zi wr=>∃(i:Nat) (o:A1),zs=A9 ⟨o.toArray⟩/\zi=I K i/\Hid (i+g=n)/\Hid (o=b++(ds.take i).flatMap f)/\Hid (GR W #[I K 6,I K 0,A9 ⟨#[]⟩,G Y 0 0,G a n D] wr))
 case atStart=>exact⟨0,b,rfl,rfl,AD,ke1,l.next ac⟩
 case round =>
  obtain⟨i,o,rfl,rfl,r,A,l⟩:=hrel;have c4:=BB l.box 4
  cases gk with
  |zero =>
   obtain rfl:i=n:=r.out;have ag:¬(i:Int)<(i:Int):=J
   go_wp2;go_ret;rw[<-A.out];exact⟨Z,l.below⟩
  |succ g =>
   have af:i<n:=Ao r.out
   have ag:(i:Int)<(n:Int):=J
   obtain⟨d,gb,v,z,s,t,w,x,y,B,C,m,rfl,hk⟩:=aa.out i af;obtain⟨⟨k0,k1,k2,k3,k4⟩,ck⟩:=hk _ l.below;have Q:Hid (b++(ds.take (i+1)).flatMap f=o++f d):=by show _=_;rw[HS.out i d m,<-A.out]
   have ai:¬(o.length+(f d).length>9223372036854775807):=by
    have H:=HL.out (i+1);rw[Q.out,BK]at H;omega
   go_wp2_with(first|(go_at_call 49;refine ck.mono ?_;rintro e w3 ⟨rfl,ad⟩;unfold D6))
   go_roundg g
   case measure=>omega
   case rel=>exact⟨i+1,o++f d,by rw[<-JB],AE,Ap r.out,Q.symm,l.next ad⟩
def CM.key{es:List (Lit×DataW Unit)}{i:Nat}{key:Lit}{l:A1}(h:es[i]?=U (key,d))(e:key=.string l):es[i]?=U (.string l,d):=e▸h
def vZ(k:Nat)(W:O)(F:Nat->Prop)(kv u:Al)(xs:List Al)(m:List (Lit×DataW Unit))(f:A2->A1)(hF:∀j,F j->j<W.heap.size)(hq:Dj W 9 1 F kv m.length (m.map Sd))(hr:Dj W 74 5 F u m.length xs)(ha:∀(i:Nat) (key:Lit) (d:A2),m[i]?=U (key,d)->∃l a,key=.string l/\Hj xs i a/\CM k W F (.agg a) d)(hl:(BW 5 m.length++m.flatMap λe=>(BW 3 (Cq e.1).length++Cq e.1)++f e.2).length<=999999999)(ih:∀(V:O) (a:A3) (d:A2),(∀j,F j->j<V.heap.size)->CM k V F (.agg a) d->(f d).length<=999999999->Am X 49 #[.agg a] V (I1 (f d) V)):Am X 49 #[.agg (BJ 7 0 ⟨#[]⟩ kv u)] W (I1 (BW 5 m.length++m.flatMap λe=>(BW 3 (Cq e.1).length++Cq e.1)++f e.2) W):=by
 obtain⟨hn,a,c,rfl,HC⟩:=eF hr;obtain⟨ab,R,rfl,HQ⟩:=vW hq;obtain⟨q,aj⟩:∃q:Lit×DataW Unit->A1,Hid ((λe=>(BW 3 (Cq e.1).length++Cq e.1)++f e.2)=q):=⟨_,show _=_ from rfl⟩
 rw[aj.out]at hl ⊢;have h:Hid (GR W (BJ 7 0 ⟨#[]⟩ (G ab m.length R) (G a m.length c)) (W.alloc (E (BJ 7 0 ⟨#[]⟩ (G ab m.length R) (G a m.length c)) 74))):=Q1 _ _;have ag:=λV=>Oq V 5 m.length Ay hn;obtain⟨n,hN⟩:∃n,m.length=n:=⟨_,rfl⟩
 obtain⟨x,H0⟩:∃x,Hid (BW 5 m.length=x):=⟨_,show _=_ from rfl⟩
 have am:Hid (∀i,i<n->∃e l w g gk C z s B D H L N P,m[i]?=U e/\q e=(BW 3 l.length++l)++w/\a=U ⟨g,0,Y⟩/\ab=U ⟨gk,0,Y⟩/\(∀V,A0 W V->V.cell? ⟨gk,i,Y⟩=U (A9 ⟨l.toArray⟩)/\(V.cell? ⟨g,i*5,Y⟩=U (I K C)/\V.cell? ⟨g,i*5+1,Y⟩=U (I K z)/\V.cell? ⟨g,i*5+2,Y⟩=U (.string s)/\V.cell? ⟨g,i*5+3,Y⟩=U (G B D H)/\V.cell? ⟨g,i*5+4,Y⟩=U (G L N P))/\Am X 49 #[Ab #[I K C,I K z,.string s,G B D H,G L N P]] V (I1 w V))):=λi hi=>by
  obtain⟨⟨key,d⟩,y⟩:∃e,m[i]?=U e:=⟨_,C6 J⟩
  obtain⟨l,ax,av,hs,hA⟩:=ha i key d y;subst av;obtain⟨C,z,s,B,D,H,L,N,P,e⟩:=hA.shape;injection e with e;subst e;obtain⟨g,ea,hg,hc⟩:=HC i _ J hs;obtain⟨gk,eb,ar,ap⟩:=HQ i l d y;have ad:q (.string l,d)=(BW 3 l.length++l)++f d:=by rw[<-aj.out];rfl
  have aq:(f d).length<=999999999:=by
   have h1:=Sl q m i _ y;have h2:=Sm q m (i+1);rw[h1,ad,BK,BK]at h2;rw[BK]at hl;omega
  refine⟨(.string l,d),l,f d,g,gk,C,z,s,B,D,H,L,N,P,y,ad,ea,eb,λV b=>⟨ap V (b.block gk (hF gk ar)),?_,ih V _ d (λj hj=>CA (hF j hj) b.size) (hA.same (λ_ ak=>ak) (λj hj=>b.block j (hF j hj))) aq⟩⟩;have hb:=b.block g (hF g hg);exact⟨hc V hb 0 Ay,hc V hb 1 Ay,hc V hb 2 Ay,hc V hb 3 Ay,hc V hb 4 Ay⟩
 have HL:Hid (∀i,(x++(m.take i).flatMap q).length<=999999999):=λi=>by
  have:=Sm q m i;rw[<-H0.out];rw[BK]at hl ⊢;omega
 have HT:Hid (m.flatMap q=(m.take n).flatMap q):=by show _=_;rw[<-hN,LG]
 rw[HT.out];rw[H0.out]at ag ⊢;rw[hN]at ag h hn ⊢;have HS:Hid (∀i d,m[i]?=U d->x++(m.take (i+1)).flatMap q=(x++(m.take i).flatMap q)++q d):=λi d y=>by rw[Sl q m i d y,CN]
 have cK:∀(V:O) (l:A1),l.length<=999999999->Am X 74 #[I K 3,I K l.length] V (I1 (BW 3 l.length) V):=λV l ak=>Oq V 3 l.length Ay J;unfold BJ at *;go_enter func49,ntmps49
 go_wp2_with(first|(go_at_call 74;refine(ag _).mono ?_;rintro e w2 ⟨rfl,ah⟩;unfold D6))
 go_loopg[5,6] n (λg zs zi wr=>∃(i:Nat) (A:A1),zs=A9 ⟨A.toArray⟩/\zi=I K i/\Hid (i+g=n)/\Hid (A=x++(m.take i).flatMap q)/\Hid (GR W #[I K 7,I K 0,A9 ⟨#[]⟩,G ab n R,G a n c] wr))
 case atStart=>exact⟨0,x,rfl,rfl,AD,ke1,h.next ah⟩
 case round =>
  obtain⟨i,A,rfl,rfl,hg,al,h⟩:=hrel;have c4:=BB h.box 4
  cases gk with
  |zero =>
   obtain rfl:i=n:=hg.out;have aw:¬(i:Int)<(i:Int):=J
   go_wp2;go_ret;rw[<-al.out];exact⟨Z,h.below⟩
  |succ g =>
   have au:i<n:=AT
   have aw:(i:Int)<(n:Int):=J
   obtain⟨ee,l,w,t,gk,C,z,s,B,D,H,L,N,P,y,ad,rfl,rfl,hk⟩:=am.out i au;obtain⟨Q,ae⟩:∃Q,Hid (A++BW 3 l.length=Q):=⟨_,show _=_ from rfl⟩
   obtain⟨v,af⟩:∃v,Hid (Q++l=v):=⟨_,show _=_ from rfl⟩
   have HN:Hid (x++(m.take (i+1)).flatMap q=v++w):=by show _=_;rw[HS.out i ee y,<-al.out,ad,<-af.out,<-ae.out];simp only[CN]
   have ai:l.length<=999999999/\¬(A.length+(BW 3 l.length).length>9223372036854775807)/\¬(Q.length+l.length>9223372036854775807)/\¬(v.length+w.length>9223372036854775807):=by
    have h1:=HL.out (i+1);rw[HN.out,BK]at h1;have h2:v.length=Q.length+l.length:=by rw[<-af.out,BK]
    have h3:Q.length=A.length+(BW 3 l.length).length:=by rw[<-ae.out,BK]
    omega
   obtain⟨ai,g1,g2,g3⟩:=ai;have HK:Hid (∀V,GR W #[I K 7,I K 0,A9 ⟨#[]⟩,G (U ⟨gk,0,Y⟩) n R,G (U ⟨t,0,Y⟩) n c] V->V.cell? ⟨gk,i,Y⟩=U (A9 ⟨l.toArray⟩)/\(V.cell? ⟨t,i*5,Y⟩=U (I K C)/\V.cell? ⟨t,i*5+1,Y⟩=U (I K z)/\V.cell? ⟨t,i*5+2,Y⟩=U (.string s)/\V.cell? ⟨t,i*5+3,Y⟩=U (G B D H)/\V.cell? ⟨t,i*5+4,Y⟩=U (G L N P))/\Am X 49 #[Ab #[I K C,I K z,.string s,G B D H,G L N P]] V (I1 w V)):=λV b=>hk V b.below;have ck:=λV=>cK V l ai
   go_wp2_with fail
   refine DA (S:=GR W #[I K 7,I K 0,A9 ⟨#[]⟩,G (U ⟨gk,0,Y⟩) n R,G (U ⟨t,0,Y⟩) n c]) h.drew M ?_;intro o;refine BE 0 84 (A9 ⟨A.toArray⟩) o ?_;refine BE 1 85 (A8 (U ⟨W.heap.size,3,Y⟩)) o ?_;refine BL 2 86 (G (U ⟨gk,0,Y⟩) n R) Z (λr p=>?y2) o ?_
   case y2=>(have hz:=BB p.box 3;go_simp)
   refine BE 3 87 (I K i) o ?_;refine BL 4 88 (A8 (U ⟨gk,i,Y⟩)) Z (λr p=>?y4) o ?_
   case y4=>go_simp
   refine BL 5 89 (A9 ⟨l.toArray⟩) Z (λr p=>?y5) o ?_
   case y5=>(have hz:=(HK r p).1;go_simp)
   refine BL 6 90 (I K l.length) Z (λr p=>?y6) o ?_
   case y6=>go_simp
   refine BE 9 93 (A8 (U ⟨W.heap.size,3,Y⟩)) o ?_;refine BL 10 94 (G (U ⟨gk,0,Y⟩) n R) Z (λr p=>?z2) o ?_
   case z2=>(have hz:=BB p.box 3;go_simp)
   refine BE 11 95 (I K i) o ?_;refine BL 12 96 (A8 (U ⟨gk,i,Y⟩)) Z (λr p=>?z4) o ?_
   case z4=>go_simp
   refine BL 13 97 (A9 ⟨l.toArray⟩) Z (λr p=>?z5) o ?_
   case z5=>(have hz:=(HK r p).1;go_simp)
   refine BE 15 99 (A8 (U ⟨W.heap.size,4,Y⟩)) o ?_;refine BL 16 100 (G (U ⟨t,0,Y⟩) n c) Z (λr p=>?x2) o ?_
   case x2=>(have hz:=BB p.box 4;go_simp)
   refine BE 17 101 (I K i) o ?_;refine BL 18 102 (A8 (U ⟨t,i*5,Y⟩)) Z (λr p=>?x4) o ?_
   case x4=>go_simp
   refine BL 19 103 (Ab #[I K C,I K z,.string s,G B D H,G L N P]) Z (λr p=>?x5) o ?_
   case x5=>(obtain⟨k0,k1,k2,k3,k4⟩:=(HK r p).2.1;go_simp)
   refine C9 7 (λan hK=>?_);go_simp;refine(ck _).mono ?_;rintro e w2 ⟨rfl,ah⟩;have aa:=o.next ah
   refine hK.out _ _ aa (λ_=>?_);refine BL 8 92 (D6 Q) Z (λr p=>?u1) aa ?_
   case u1=>(unfold D6;go_simp;rw[<-ae.out];exact JB _ _)
   refine BL 14 98 (D6 v) Z (λr p=>?u2) aa ?_
   case u2=>(unfold D6;go_simp;rw[<-af.out];exact JB _ _)
   refine C9 20 (λan hK=>?_);go_simp;refine(HK _ aa).2.2.mono ?_;rintro e w3 ⟨rfl,ao⟩;have ac:=aa.next ao
   refine hK.out _ _ ac (λ_=>?_);refine BL 21 105 (D6 (v++w)) Z (λr p=>?u3) ac ?_
   case u3=>(unfold D6;go_simp;exact JB _ _)
   refine BE 22 5 (D6 (v++w)) ac ?_;refine Cv ?_;go_wp2;go_roundg g
   case measure=>omega
   case rel=>exact⟨i+1,_,rfl,AE,B6,HN.symm,ac⟩
end
end Go.Proofs.YtnlnjkggkbbdhaaGreatDoor
