import Derived.Test.YtoegnhgofkhbnaaGreatDoorHq23
import Derived.Test.YtoegnhgofkhbnaaGreatDoorHq25
set_option maxRecDepth 100000
set_option maxHeartbeats 8000000
set_option linter.all false
namespace Go.Proofs.YtoegnhgofkhbnaaGreatDoor
open Go.Proofs.Tryz
open Go.Obj renaming cells->Af
open Option renaming some->Aj,none->Ak
open Go renaming World->Al,Value->Am
variable{a bs r t x:A2}{b g k p:Nat}{c:UInt8}{D kd l lim n:Int}{kl ks:List A2}{S d:A3}{A y:A4}{ds:List (DataW Unit)}{V V' W w5:Al}{kv u:Am}{xs:List Am}{ex:Nat->Prop}{rd:Nat->Except (Int×Int) (DataW Unit×Nat)}{R:Except (Int×Int) (List (DataW Unit)×Nat)}{o:Obj}
section
open Go.RowKit Go.Lib
theorem Iq(h:bs.drop p=c::r):bs[p]?=Aj c/\bs.drop (p+1)=r/\p+r.length+1=bs.length:=by
 have a:(bs.drop p)[0]?=bs[p]?:=by rw[KD,LJ]
 have b:bs.drop (p+1)=(bs.drop p).drop 1:=by rw[LH]
 have d:=DK (i:=p) (l:=bs);rw[h]at a b d;rw[Bq]at d;exact⟨a.symm,b,by omega⟩
theorem Q5(e:(bs.length:Int)<=lim)(h:bs.drop p=c::r)(b:IF c=false)(g:Nat):Bk bs lim g p=.ok ((),p):=by
 obtain⟨a,_,d⟩:=Iq h
 cases g with
 |zero=>rfl
 |succ g=>rw[Bk,a];dsimp only;rw[Aq (by omega),Aq (by rw[b];decide)]
theorem YN(d:(bs.length:Int)<=lim)(h:bs.drop p=c::r):Ba bs lim [c] p=.ok ((),p+1):=by
 obtain⟨a,_,b⟩:=Iq h;rw[Ba,a];dsimp only;rw[Aq (by omega),As rfl,Ba]
def Ky(k:UInt8):Prop:=¬k.toNat=34/\¬k.toNat=92/\32<=k.toNat/\BC [] k=2
theorem pj(l:(bs.length:Int)<=lim){k:UInt8}(j:Ky k)(m:¬[k]∈ks)(h:bs.drop p=34::k::34::r):El bs lim ks p=.ok ([k],p+3)/\bs.drop (p+3)=r:=by
 obtain⟨_,a,t⟩:=Iq h;obtain⟨d,b,_⟩:=Iq a;obtain⟨f,c,_⟩:=Iq b;simp only[Bq]at t;refine⟨?_,c⟩;unfold El;rw[YN l h];dsimp only;obtain⟨g,i⟩:∃g,bs.length+1-(p+1)=g+2:=⟨bs.length-p-2,by omega⟩
 obtain⟨o,q,u,s⟩:=j;have n:Bn bs lim (g+2) (p+1) [] 0=.ok ([k],p+3):=by
  rw[Bn,d];dsimp only;rw[Aq (by omega),Aq (λe=>o e.1),Aq (λe=>q e.1),Aq (by omega)];simp only[List.drop_nil,s];rw[Aq (by decide),As trivial];show Bn bs lim (g+1) (p+2) [k] 1=_;rw[Bn,f];dsimp only;rw[Aq (by omega),As ⟨rfl,rfl⟩]
 rw[i,n];dsimp only;rw[Aq m]
theorem YO{d:Int}(s:0<=d){y:A3}(h:BB 1 x d lim=.ok y):∃m l,Bk x lim (x.length+1) 0=.ok ((),m)/\BX x lim d (λc p=>Ci ⟨Ak,x,0,0,lim,p,0⟩ c) (d.toNat+1) 0 m=.ok (y,l)/\Bk x lim (x.length+1-l) l=.ok ((),x.length):=by
 unfold BB Gu at h;simp only[show∀p,KX 1 x lim p=Bk x lim (x.length+1-p) p from λp=>As rfl,show∀p,GU 1 x d lim p=BX x lim d (λc p=>Ci ⟨Ak,x,0,0,lim,p,0⟩ c) (d.toNat+1) 0 p from λp=>As rfl,QZ]at h;have n:=Kn x [] lim 0 (Cy _)
 cases f:Bk x lim (x.length+1) 0 with
 |error e=>rw[f]at h;cases h
 |ok a =>
  rw[QZ,f]at n;rw[f]at h;have o:=NU x [] lim d (d.toNat+1) 0 (by omega) (by omega) a.2 n.2.1;dsimp only at h
  cases g:BX x lim d (λc p=>Ci ⟨Ak,x,0,0,lim,p,0⟩ c) (d.toNat+1) 0 a.2 with
  |error e=>rw[g]at h;cases h
  |ok b =>
   rw[g]at h o;have q:=Kn x [] lim b.2 o.2.1;dsimp only at h
   cases i:Bk x lim (x.length+1-b.2) b.2 with
   |error e=>rw[i]at h;cases h
   |ok c =>
    rw[i]at h q;have t:=q.2.1;dsimp only at h;unfold G2 at h;dsimp only at h
    cases j:x[c.2]? with
    |some v =>
     rw[j]at h;dsimp only at h;split at h
     ·cases h
     next k=>split at k<;>cases k
    |none =>
     rw[j]at h;cases h;have k:=JV.1 j;have r:c.2=x.length:=by omega
     exact⟨a.2,b.2,rfl,g,by rw[i,<-r]⟩
def Hb(bs:A2)(lim D:Int):Nat->Except (Int×Int) (DataW Unit×Nat):=BX bs lim D (λc p=>Ci ⟨Ak,bs,0,0,lim,p,0⟩ c) D.toNat 1
theorem To{rest:A2}{lx:Int}(b:(bs.length:Int)<=lim)(H:(x.length:Int)<=lx)(N:1<=D){k:UInt8}(F:Ky k)(a:List (Lit×DataW Unit))(I:¬[k]∈ks){X:A3}(B:BB 1 x (D-1) lx=.ok X)(l:c=44\/c=125)(h:bs.drop p=34::k::34::58::(x++c::rest))(g:Nat):∃q,bs.drop q=rest/\q<=bs.length/\C8 bs lim (C0 bs lim (Hb bs lim D)) 125 (g+1) p (ks,a)=if c=125 then .ok (([k]::ks,a++[(.string [k],X)]),q)else C8 bs lim (C0 bs lim (Hb bs lim D)) 125 g q ([k]::ks,a++[(.string [k],X)]):=by
 obtain⟨G,e⟩:=pj b F I h;obtain⟨_,u,O⟩:=Iq e;have E:Ev x bs (c::rest) lx lim:=⟨H,b,.inr ⟨c,rest,rfl,l⟩⟩
 have n:Tl x bs (c::rest) 0 (p+3+1):=⟨Cy _,by omega,by rw[u,N5]⟩
 obtain⟨J,Q,K,L,M⟩:=YO (by omega) B;have f:=Kq E n;rw[QZ,K]at f;obtain⟨_,q0,y,_,o⟩:=f;have i:=Tn E (d:=D-1) (d':=D) D.toNat 0 1 (by omega) (by omega) (by omega) J q0 o;rw[show D.toNat=(D-1).toNat+1 by omega,L,show(D-1).toNat+1=D.toNat by omega]at i;obtain⟨_,q1,z,rfl,r⟩:=i;have j:=Kq E r;rw[M]at j;obtain⟨_,m,A,_,s⟩:=j;have v:bs.drop m=c::rest:=by have:=s.2.2;rwa[LD,Jd]at this
 obtain⟨t,w,P⟩:=Iq v;refine⟨m+1,w,by omega,?_⟩;have C:C0 bs lim (Hb bs lim D) (ks,a) p=.ok (([k]::ks,a++[(.string [k],X)]),q1):=by
  unfold C0;rw[G];dsimp only;rw[Q5 b e (by decide)];dsimp only;rw[YN b e];dsimp only;rw[y];dsimp only;unfold Hb;rw[z]
 rw[C8,Q5 b h (by decide)];dsimp only;rw[C];dsimp only;rw[A];dsimp only;rw[t];dsimp only;rw[Aq (by omega)];rcases l with rfl|rfl
 ·rw[Aq (by decide),As (by decide),Aq (by decide)]
 rw[As (by decide),As rfl]
def Cr(a s b:A2):A2:=123::34::97::34::58::(a++44::34::115::34::58::(s++44::34::98::34::58::(b++[125])))
theorem Mw(a s b:A2):(Cr a s b).length=a.length+s.length+b.length+16:=by simp[Cr];omega
theorem pp:Ky 97:=by unfold Ky;decide
theorem pq:Ky 115:=by unfold Ky;decide
theorem pr:Ky 98:=by unfold Ky;decide
section
variable{a s t b:A2} {lim D:Int} {A S T:A3}
theorem Tp(d:((Cr a s b).length:Int)<=lim)(g:1<=D)(k:BB 1 a (D-1) lim=.ok A)(l:BB 1 s (D-1) lim=.ok S):∃q,(Cr a s b).drop q=34::98::34::58::(b++[125])/\q<=(Cr a s b).length/\BW (Cr a s b) lim (C0 (Cr a s b) lim (Hb (Cr a s b) lim D)) 125 1 ([],[])=C8 (Cr a s b) lim (C0 (Cr a s b) lim (Hb (Cr a s b) lim D)) 125 (a.length+s.length+b.length+14) q ([[115],[97]],[(.string [97],A),(.string [115],S)]):=by
 have o:=Mw a s b;have c:(Cr a s b).drop 1=34::97::34::58::(a++44::34::115::34::58::(s++44::34::98::34::58::(b++[125]))):=rfl;obtain⟨h,_,_⟩:=Iq c;obtain⟨q1,i,p,e⟩:=To d (by omega) g pp [] (ks:=[]) (by decide) k (.inl rfl) c (a.length+s.length+b.length+15);obtain⟨n,j,m,f⟩:=To d (by omega) g pq [(.string [97],A)] (ks:=[[97]]) (by decide) l (.inl rfl) i (a.length+s.length+b.length+14);rw[Aq (by decide)]at e f;refine⟨n,j,m,?_⟩;unfold BW;rw[Q5 d c (by decide)];dsimp only;rw[h];dsimp only;rw[Aq (by omega),Aq (by decide),show(Cr a s b).length+1-1=a.length+s.length+b.length+15+1 by omega];exact e.trans f
end
theorem Tq(d:(bs.length:Int)<=lim)(f:1<=D)(h:bs=123::r):BB 1 bs D lim=match BW bs lim (C0 bs lim (Hb bs lim D)) 125 1 ([],[])with
  |.error e=>.error e
  |.ok (es,q)=>match Bk bs lim (bs.length+1-q) q with
   |.error e=>.error e
   |.ok (_,p2)=>match G2 ⟨Ak,bs,0,0,lim,p2,0⟩with
    |.error e=>.error e
    |.ok _=>.ok (.map es.2):=by
 have a:bs.drop 0=123::r:=by rw[N5];exact h
 obtain⟨b,_,g⟩:=Iq a;unfold BB Gu;simp only[show∀p,KX 1 bs lim p=Bk bs lim (bs.length+1-p) p from λp=>As rfl,show∀p,GU 1 bs D lim p=BX bs lim D (λc p=>Ci ⟨Ak,bs,0,0,lim,p,0⟩ c) (D.toNat+1) 0 p from λp=>As rfl];rw[Q5 d a (by decide)];dsimp only;rw[BX,b];dsimp only;rw[Aq (by omega)];have e:FA bs lim D 0 (BX bs lim D (λc p=>Ci ⟨Ak,bs,0,0,lim,p,0⟩ c) D.toNat (0+1)) (λc p=>Ci ⟨Ak,bs,0,0,lim,p,0⟩ c) 123 (0+1)=match BW bs lim (C0 bs lim (Hb bs lim D)) 125 1 ([],[])with
  |.error e=>.error e
  |.ok (es,q)=>.ok (.map es.2,q):=by
  unfold FA;rw[Aq (by decide),Aq (by decide),Aq (by decide),Aq (by decide),Aq (by decide),As (by decide),Aq (by omega)];rfl
 rw[e]
 cases BW bs lim (C0 bs lim (Hb bs lim D)) 125 1 ([],[])with
 |error e=>rfl
 |ok x=>rfl
def Rk(A S T:A3)(x y:List A2×List (Lit×DataW Unit)):Prop:=x.1=y.1/\∃tl,x.2=(.string [97],A)::(.string [115],S)::tl/\y.2=(.string [97],A)::(.string [115],T)::tl
theorem pu{s b:A2}{A T:A3}(n:1<=D)(G:((Cr a s b).length:Int)<=lim)(H:((Cr a t b).length:Int)<=lim)(K:BB 1 a (D-1) lim=.ok A)(U:BB 1 s (D-1) lim=.ok S)(V:BB 1 t (D-1) lim=.ok T):(∃e k m,BB 1 (Cr a s b) D lim=.error (e,k)/\BB 1 (Cr a t b) D lim=.error (e,m))\/∃i,BB 1 (Cr a s b) D lim=.ok (.map ((.string [97],A)::(.string [115],S)::i))/\BB 1 (Cr a t b) D lim=.ok (.map ((.string [97],A)::(.string [115],T)::i)):=by
 obtain⟨q,I,l1,N⟩:=Tp G n K U;obtain⟨L,J,p,O⟩:=Tp H n K V;have hn:=Mw a s b;have ad:=Mw a t b;have k1:=congrArg List.length I;have k2:=congrArg List.length J;simp only[DK,Bq,AC,CF]at k1 k2;rw[Tq G n rfl,Tq H n rfl,N,O];generalize Cr a s b=u at *;generalize Cr a t b=v at *;have E:Ev u v [] lim lim:=⟨G,H,.inl rfl⟩
 have X:Tl u v [] q L:=⟨l1,p,by rw[I,J,IA]⟩
 have Y:O0 u v [] (Hb u lim D) (Hb v lim D):=Tn E D.toNat 1 1 rfl (by omega) (by omega);have Z:Lg u [] lim (Hb u lim D) (Hb (u++[]) lim D):=NU u [] lim D D.toNat 1 (by omega) (by omega);have g:=Tk E (R:=Rk A S T) 125 (YL E Y (λx y h=>⟨h.1,λl d=>⟨by rw[h.1],(by obtain⟨i,C,F⟩:=h.2;exact⟨i++[(.string l,d)],by rw[C];rfl,by rw[F];rfl⟩)⟩⟩)) (λx aa y r W c=>by
  have:=SS u [] lim Z x aa W;rw[c]at this;exact this.1) (a.length+s.length+b.length+14) (a.length+t.length+b.length+14) q L ([[115],[97]],[(.string [97],A),(.string [115],S)]) ([[115],[97]],[(.string [97],A),(.string [115],T)]) ⟨rfl,[],rfl,rfl⟩ X (by omega) (by omega)
 generalize C8 u lim _ _ _ _ _=r at *;generalize C8 v lim _ _ _ _ _=r' at *;rcases r with⟨e,k⟩|⟨x,q2⟩
 ·obtain⟨m,g⟩:=g rfl;rw[g];exact .inl ⟨e,k,m,rfl,rfl⟩
 obtain⟨y,ae,g,⟨_,i,C,F⟩,P⟩:=g;rw[g];dsimp only;have f:=Kq E P;generalize Bk u lim _ _=w at *;generalize Bk v lim _ _=w' at *;rcases w with⟨e,k⟩|⟨_,M⟩
 ·obtain⟨m,f⟩:=f rfl;rw[f];exact .inl ⟨e,k,m,rfl,rfl⟩
 obtain⟨_,ab,f,_,Q⟩:=f;rw[f];dsimp only;unfold G2;dsimp only;have j:=Q.2.2;rw[IA]at j
 cases o:u.drop M with
 |nil =>
  rw[o]at j;have z:u[M]?=Ak:=DI (by have:=congrArg List.length o;rw[DK,CF]at this;omega);have B:v[ab]?=Ak:=DI (by have:=congrArg List.length j;rw[DK,CF]at this;omega);rw[z,B];exact .inr ⟨i,by rw[<-C],by rw[<-F]⟩
 |cons ac r =>
  rw[o]at j;obtain⟨z,_,g3⟩:=Iq o;obtain⟨B,_,g4⟩:=Iq j;rw[z,B];dsimp only;rw[Aq (by omega),Aq (by omega)];exact .inl ⟨9,_,_,rfl,rfl⟩
theorem pv{s b:A2}{A B:A3}(c:1<=D)(d:((Cr a s b).length:Int)<=lim)(j:BB 1 a (D-1) lim=.ok A)(l:BB 1 s (D-1) lim=.ok S)(k:BB 1 b (D-1) lim=.ok B):∃y,BB 1 (Cr a s b) D lim=.ok y:=by
 obtain⟨q,f,r,i⟩:=Tp d c j l;have p:=Mw a s b;rw[Tq d c rfl,i];obtain⟨o,h,t,e⟩:=To d (by omega) c pr [(.string [97],A),(.string [115],S)] (ks:=[[115],[97]]) (by decide) k (.inr rfl) f (a.length+s.length+b.length+13);rw[As rfl]at e;rw[e];dsimp only;have m:o=(Cr a s b).length:=by have:=congrArg List.length h;rw[DK,CF]at this;omega
 subst m;have n:∀g,Bk (Cr a s b) lim g (Cr a s b).length=.ok ((),(Cr a s b).length):=λg=>by
  cases g with
  |zero=>rfl
  |succ g=>rw[Bk,DI (AB _)]
 rw[n];dsimp only;unfold G2;dsimp only;rw[DI (AB _)];exact⟨_,rfl⟩
def Fq(kl:List A2)(ds:List (DataW Unit)):List (Lit×DataW Unit):=(kl.zip ds).map λx=>(.string x.1,x.2)
theorem Zv(h:kl.length=ds.length)(l:A2)(d:A3):Fq (kl++[l]) (ds++[d])=Fq kl ds++[(.string l,d)]:=by
 unfold Fq;rw[List.zip_append h,Eg];rfl
theorem Zw(h:kl.length=ds.length):(Fq kl ds).length=ds.length:=by
 unfold Fq;rw[De,List.length_zip];omega
theorem Zx:∀{kl:List A2} {ds:List (DataW Unit)},kl.length=ds.length->(Fq kl ds).map Qi=kl.map BU
 |[],[],_=>rfl
 |[],_::_,h=>by simp at h
 |_::_,[],h=>by simp at h
 |l::kl,d::ds,h=>by
  have a:=Zx (kl:=kl) (ds:=ds) (by simpa using h);unfold Fq at a ⊢;rw[List.zip_cons_cons,CT,CT,CT,a];rfl
theorem qY{i:Nat}{key:Lit}(h:(Fq kl ds)[i]?=Aj (key,d)):ds[i]?=Aj d/\∃l,key=.string l:=by
 unfold Fq at h;rw[GH]at h
 cases a:(kl.zip ds)[i]? with
 |none=>rw[a]at h;cases h
 |some x =>
  rw[a]at h;injection h with h;injection h with h1 h2;rw[List.getElem?_zip_eq_some]at a;exact⟨by rw[a.2,h2],_,h1.symm⟩
structure DH(k:Nat)(V:World)(b:Nat)(kv u:Value)(ex:Nat->Prop)(kl:List A2)(ds:List (DataW Unit)):Prop where
 keys:V.ownsRow b 9 1 kv kl.length (kl.map BU)
 kids:I2 k V b u (λj=>some j=kv.ownBlock\/ex j) ds
 len:kl.length=ds.length
 apart:∀g,kv.ownBlock=some g->¬u.ownBlock=some g
 exk:∀g,kv.ownBlock=some g->¬ex g
 exu:∀g,u.ownBlock=some g->¬ex g
theorem Zy(k:Nat)(V:Al)(b:Nat)(a:Nat->Prop):DH k V b AK AK a [] []:=⟨FK _ _ _ _,TQ _ _ _ _,rfl,(λg h=>by cases h),(λg h=>by cases h),(λg h=>by cases h)⟩
theorem Qm{t:TypeId}{size n:Nat}(h:V.ownsRow b t size u n xs)(l:∀j,u.ownBlock=Aj j->b<=j->j<V.heap.size->V'.heap[j]?=V.heap[j]?):V'.ownsRow b t size u n xs:=by
 refine⟨h.1,?_⟩;rcases h.2 with i|⟨g,d,f,e,a,c,k⟩
 ·exact .inl i
 exact .inr ⟨g,d,f,e,a,(l g (by rw[e];rfl) a (At c)).trans c,k⟩
theorem DH.next(h:DH k V b kv u ex kl ds)(t:V.heap.size<=V'.heap.size)(l:∀j,b<=j->j<V.heap.size->¬ex j->V'.heap[j]?=V.heap[j]?):DH k V' b kv u ex kl ds:=by
 refine⟨Qm h.keys (λj e f g=>l j f g (h.exk j e)),?_,h.len,h.apart,h.exk,h.exu⟩;obtain⟨s,f,g⟩:=h.kids;refine⟨s,Qm f (λj e o p=>l j o p (h.exu j e)),λi d q=>?_⟩;obtain⟨a,m,n⟩:=g i d q;exact⟨a,m,n.same (λj c=>⟨c.1,by have:=c.2.1;omega,c.2.2⟩) (λj c=>l j c.1 c.2.1 (λr=>c.2.2.2 (.inr r)))⟩
theorem DH.other{ex':Nat->Prop}(h:DH k V b kv u ex kl ds)(o:∀j,ex' j->ex j\/V.heap.size<=j):DH k V b kv u ex' kl ds:=by
 refine⟨h.keys,?_,h.len,h.apart,λg e n=>?_,λg e n=>?_⟩
 ·obtain⟨p,m,s⟩:=h.kids;refine⟨p,m,λi d t=>?_⟩;obtain⟨a,q,r⟩:=s i d t;refine⟨a,q,r.same (λj f=>⟨f.1,f.2.1,f.2.2.1,λl=>?_⟩) (λ_ _=>rfl)⟩;rcases l with l|l
  ·exact f.2.2.2 (.inl l)
  rcases o j l with c|c
  ·exact f.2.2.2 (.inr c)
  have:=f.2.1;omega
 ·rcases o g n with c|c
  ·exact h.exk g e c
  have:=GE h.keys e;omega
 obtain⟨p,m,_⟩:=h.kids;rcases o g n with c|c
 ·exact h.exu g e c
 have:=GE m e;omega
theorem DH.map{B:Nat}(h:DH k V b kv u ex kl ds)(t:B<=b):BG (k+1) V (λj=>B<=j/\j<V.heap.size) (.agg (Ax 7 0 ⟨#[]⟩ kv u)) (.map (Fq kl ds)):=by
 obtain⟨s,o,p⟩:=h.kids;have hF:∀g,b<=g->g<V.heap.size->B<=g/\g<V.heap.size:=λg v r=>⟨by omega,r⟩
 refine⟨kv,u,s,rfl,?_,?_,λi key d q=>?_⟩
 ·rw[Zw h.len,Zx h.len,<-h.len];exact ME h.keys _ hF
 ·rw[Zw h.len];exact ME o _ hF
 obtain⟨e,l,f⟩:=qY q;obtain⟨a,m,n⟩:=p i d e;exact⟨l,a,f,m,n.same (λj c=>⟨by have:=c.1;omega,c.2.1⟩) (λ_ _=>rfl)⟩
def KA(kl:List A2)(ds:List (DataW Unit))(l:A2)(r:Except (Int×Int) (DataW Unit×Nat)):Except (Int×Int) ((List A2×List (Lit×DataW Unit))×Nat):=match r with
 |.error e=>.error e
 |.ok (d,q)=>.ok ((l::kl.reverse,Fq kl ds++[(.string l,d)]),q)
theorem Zz{l:A2}{r r':Except (Int×Int) (DataW Unit×Nat)}(h:Ep bs lim r r'):Ep bs lim (KA kl ds l r) (KA kl ds l r'):=by
 rcases h with rfl|⟨q,a,b,c,x,d⟩
 ·exact .inl rfl
 rw[a,d];exact .inr ⟨q,rfl,b,c,_,rfl⟩
theorem qZ{x:UInt8}(d:Lm bs l lim)(hi:AS bs lim p):(Bo bs l p=false/\Ba bs lim [x] p=.error (BM bs l p 9))\/(∃c,bs[p]?=Aj c/\Bo bs l p=true/\¬(p:Int)=lim/\((¬c=x/\Ba bs lim [x] p=.error (BM bs l p 9))\/(c=x/\AS bs lim (p+1)/\Ba bs lim [x] p=.ok ((),p+1)))):=by
 rw[Ba]
 cases b:bs[p]? with
 |none=>exact .inl ⟨Ir b,by rw[JM hi.1 b]⟩
 |some c =>
  simp only[];by_cases a:(p:Int)=lim
  ·rw[As a];exact .inl ⟨Hz d b a,by rw[GB d b a]⟩
  rw[Aq a];refine .inr ⟨c,rfl,JN d hi b a,a,?_⟩;by_cases e:c=x
  ·rw[As e];exact .inr ⟨e,DZ hi b a,rfl⟩
  rw[Aq e];exact .inl ⟨e,by rw[Hc d hi b a]⟩
theorem r7(k:Lm bs l lim)(M:∀p:Nat,(p:Int)=lim->p<bs.length->rd p=.error (8,(p:Int)))(hi:AS bs lim p){R:Except (Int×Int) ((List A2×List (Lit×DataW Unit))×Nat)}(a:C0 bs lim rd (kl.reverse,Fq kl ds) p=R):(Bo bs l p=false/\R=.error (BM bs l p 9))\/∃c,bs[p]?=Aj c/\Bo bs l p=true/\((¬c.toNat=34/\R=.error (BM bs l p 9))\/(c.toNat=34/\AS bs lim (p+1) /\
   ((∃f,Bn bs lim (bs.length+1-(p+1)) (p+1) [] 0=.error f/\R=.error f)\/∃t r,Bn bs lim (bs.length+1-(p+1)) (p+1) [] 0=.ok (t,r)/\AS bs lim r/\p+1<r /\
    ((t∈kl/\R=.error (BM bs l (r-1) 12))\/(¬t∈kl/\AS bs lim (CI bs l (bs.length+1-r) r) /\
     ((∃f,Ba bs lim [58] (CI bs l (bs.length+1-r) r)=.error f/\R=.error f)\/∃b,Ba bs lim [58] (CI bs l (bs.length+1-r) r)=.ok ((),b)/\AS bs lim b/\r<b/\AS bs lim (CI bs l (bs.length+1-b) b)/\b<=CI bs l (bs.length+1-b) b/\∀s,Ep bs lim (rd (CI bs l (bs.length+1-b) b)) s->Ep bs lim R (KA kl ds t s))))))):=by
 unfold C0 El at a;rcases qZ (x:=34) k hi with⟨i,d⟩|⟨c,G,i,O,⟨d,j⟩|⟨d,j,J⟩⟩
 ·rw[d]at a;exact .inl ⟨i,a.symm⟩
 ·rw[j]at a;exact .inr ⟨c,G,i,.inl ⟨λe=>d (K1.1 (e.trans (by rfl))),a.symm⟩⟩
 rw[J]at a;simp only[]at a;refine .inr ⟨c,G,i,.inr ⟨by rw[d];rfl,j,?_⟩⟩
 cases n:Bn bs lim (bs.length+1-(p+1)) (p+1) [] 0 with
 |error f =>
  rw[n]at a;exact .inl ⟨f,rfl,a.symm⟩
 |ok x =>
  obtain⟨t,r⟩:=x;rw[n]at a;have u:=Qj _ _ _ _ _ _ j n;have L:=(Me bs lim _ _ _ _ _ _ n).1;refine .inr ⟨t,r,rfl,u,L,?_⟩;simp only[List.mem_reverse]at a;by_cases m:t∈kl
  ·rw[As m]at a;obtain⟨I,rfl⟩:∃I,r=I+1:=⟨r-1,by omega⟩
   refine .inl ⟨m,?_⟩;rw[<-a,Ly,Z8 k u];simp only[];congr 2;omega
  rw[Aq m]at a;simp only[]at a;refine .inr ⟨m,?_⟩;rcases J2 k (bs.length+1-r) r u with⟨q,y,z,o,H,_⟩|⟨q,y,z,o,H⟩
  ·rw[y]at a;rw[z];simp only[]at a;refine⟨o,?_⟩
   cases w:Ba bs lim [58] q with
   |error f =>
    rw[w]at a;exact .inl ⟨f,rfl,a.symm⟩
   |ok x =>
    obtain⟨_,b⟩:=x;rw[w]at a;obtain⟨N,A⟩:=Oc _ _ _ o w;simp only[Bq,CF]at N;refine .inr ⟨b,rfl,A,by omega,?_⟩;simp only[]at a;rcases J2 k (bs.length+1-b) b A with⟨h,B,C,D,E,_⟩|⟨h,B,C,D,E⟩
    ·rw[B]at a;rw[C];refine⟨D,E,λs v=>?_⟩;have g:=Zz (kl:=kl) (ds:=ds) (l:=t) v;have e:KA kl ds t (rd h)=R:=by
      rw[<-a];simp only[];unfold KA
      cases rd h with
      |error f=>rfl
      |ok x=>rfl
     rw[e]at g;exact g
    rw[B]at a;rw[C];refine⟨⟨by omega,by omega⟩,by have:=A.2;omega,λs v=>?_⟩;have g:=Zz (kl:=kl) (ds:=ds) (l:=t) v;have e:KA kl ds t (rd h)=R:=by
     rw[<-a,M h D E];rfl
    rw[e]at g;exact g
  rw[y]at a;rw[z];refine⟨⟨by omega,by omega⟩,.inl ⟨(8,(q:Int)),?_,a.symm⟩⟩;obtain⟨F,K⟩:∃F,bs[q]?=Aj F:=⟨_,AY H⟩
  rw[Ba,K];simp only[];rw[As o]
theorem ZA{V2:Al}{m:Nat}(h:CS W A y V2)(d:V2.ownsRow (W.heap.size+4) 62 5 u m xs)(a:(V2.alloc o).grownBy w5 u.ownBlock):CS W A y w5:=by
 have g:=h.size;have b:∀j,j<W.heap.size+4->w5.heap[j]?=V2.heap[j]?:=λj c=>(a.block j (by simp;omega) (λe=>by have:=E7 d e.symm;omega)).trans (AL _ _ _ (by omega));have f:V2.heap.size+1<=w5.heap.size:=by have:=a.size;simpa using this
 exact⟨(b _ (by omega)).trans h.box,(b _ (by omega)).trans h.th,(b _ (by omega)).trans h.flt,(b _ (by omega)).trans h.tv,h.below.trans ⟨a.os,a.tape,a.output,by omega,λj c=>b j (by omega)⟩⟩
theorem ZB{s:ByteArray}(h:CS W A (Ax kd n s kv u) V)(b:Am):CS W A (Ax kd n s kv b) (V.setCell ⟨W.heap.size+3,4,Ak⟩ b):=by
 have a:∀j,j≠W.heap.size+3->(V.setCell ⟨W.heap.size+3,4,Ak⟩ b).heap[j]?=V.heap[j]?:=λj c=>BV V _ _ _ (by simpa using c);refine⟨(a _ (by omega)).trans h.box,(a _ (by omega)).trans h.th,(a _ (by omega)).trans h.flt,?_,h.below.trans ⟨rfl,rfl,rfl,by simp[World.setCell],λj c=>a j (by omega)⟩⟩;rw[DJ _ _ _ _ _ _ h.tv];rfl
theorem r8{f:Int×Int}(h:J7 bs lim (Cv rd) 93 g p ds R)(i:Ep bs lim (rd p) (.error f))(e:∀p:Nat,(p:Int)=lim->p<bs.length->rd p=.error (8,(p:Int))):R=.error f:=by
 have a:rd p=.error f:=by
  rcases i with h|⟨q,_,_,_,x,c⟩
  ·exact h
  cases c
 rcases h.2 with⟨j,_,b⟩|⟨b,d,c⟩
 ·rw[<-b];unfold Kz Cv;rw[a]
 rw[e p b d]at a;injection a with a;rw[c,a]
theorem r9(t:Lm bs l lim){q p3:Nat}{dd:A3}(h:J7 bs lim (Cv rd) 93 g p ds R)(H:Ep bs lim (rd p) (.ok (dd,q)))(u:∀p:Nat,(p:Int)=lim->p<bs.length->rd p=.error (8,(p:Int)))(F:∀p x q,rd p=.ok (x,q)->p<q)(v:AS bs lim q)(M:bs.length+1<=p+g)(r:p3=CI bs l (bs.length+1-q) q):AS bs lim p3/\((Bo bs l p3=false/\R=.error (BM bs l p3 9))\/∃c,bs[p3]?=Aj c/\Bo bs l p3=true/\((c.toNat=93/\R=.ok (ds++[dd],p3+1)/\AS bs lim (p3+1))\/(¬c.toNat=93/\c.toNat=44/\AS bs lim (p3+1)/\∃a,g=a+2/\p<p3/\C8 bs lim (Cv rd) 93 (a+1) (p3+1) (ds++[dd])=R)\/(¬c.toNat=93/\¬c.toNat=44/\R=.error (BM bs l p3 9)))):=by
 rcases H with i|⟨O,d,m,n,x,f⟩
 ·have N:=F p dd q i;rcases h.2 with⟨a,e,o⟩|⟨m,n,f⟩
  ·have G:Cv rd ds p=.ok (ds++[dd],q):=by unfold Cv;rw[i]
   obtain⟨w,L,j⟩:=Zt t v r G o;refine⟨w,?_⟩;rcases j with j|⟨c,s,y,b⟩
   ·exact .inl j
   refine .inr ⟨c,s,y,?_⟩;rcases b with b|⟨z,c2,A,B⟩|b
   ·exact .inl b
   ·have:=B9 s;obtain⟨k,rfl⟩:∃k,a=k+1:=⟨a-1,by omega⟩
    exact .inr (.inl ⟨z,c2,A,k,by omega,by omega,B⟩)
   exact .inr (.inr b)
  rw[u p m n]at i;cases i
 injection f with f;injection f with h5 h6;subst h6;obtain⟨C,D,E⟩:=Zu t m n;rw[C]at r;subst r;refine⟨v,.inl ⟨D,?_⟩⟩;rw[E];rcases h.2 with⟨a,_,o⟩|⟨I,J,K⟩
 ·rw[<-o];unfold Kz Cv;rw[d]
 rw[u p I J]at d;injection d with d;rw[K,d]
theorem TR(d n:Int)(s:ByteArray)(a b:A5)(i j p q:Nat):∀u∈[Value.int .i64 d,.int .i64 n,.string s,.slice a i j,.slice b p q],u.oneCell'=true:=λu c=>by
 simp at c;rcases c with rfl|rfl|rfl|rfl|rfl<;>rfl
theorem re(k:Nat)(W:World)(bs:List UInt8)(fm d l lim:Int)(i:Nat)(dp:Int)(c:UInt8)(hc:bs[i]?=some c)(hv:c.toNat=91)(hp:¬(i:Int)=lim)(hl:Lm bs l lim)(hi:AS bs lim i)(hb:bs.length<=281474976710656)(co:lim<=200000000)(cu:0<=dp)(cv:dp<d)(cw:d<=100000)(rd:Nat->Except (Int×Int) (DataW Unit×Nat))(b0:∀p,CM (rd p))(b5:∀p:Nat,(p:Int)=lim->p<bs.length->rd p=.error (8,(p:Int)))(b2:∀p bn ar,rd p=.ok (bn,ar)->p<ar)(cJ:∀V (p:Nat),Below W.heap.size W V->AS bs lim p->Calls prog 59 #[.agg (AF bs fm d l),.int .i64 p,.int .i64 (dp+1)] V (DA k bs lim V (rd p))):Calls prog 90 #[.agg (AF bs fm d l),.int .i64 i,.int .i64 dp] W (DA (k+1) bs lim W (qX (BW bs lim (Cv rd) 93 (i+1) []))):=by
 obtain⟨ti,cc,b9,ca,cb⟩:=BH Tryz.infoThR;obtain⟨be,HR⟩:∃be,Hid (BW bs lim (Cv rd) 93 (i+1) []=be):=⟨_,show _=_ from rfl⟩
 rw[HR.out];have cy:=B9 hc;have cz:=D6 bs i c hc;have di:=AI (c:=c) 123 (by omega);have b3:=DZ hi hc hp;have HL:=Ap hl;have cH:=MB bs fm d l;have cB:=MC bs fm d l;have cS:∀V (p:Nat),p<=bs.length->Calls prog 35 #[.agg #[.string ⟨bs.toArray⟩,.int .i64 fm,.int .i64 d,.int .i64 l],.int .i64 p] V λaj W'=>aj=.returned (.int .i64 (CI bs l (bs.length+1-p) p))/\Below V.heap.size V W':=λV p hp=>Mx V bs fm d l p hb hp;have bp:Hid (∀V (p:Nat),Below W.heap.size W V->AS bs lim p->Calls prog 59 #[.agg #[.string ⟨bs.toArray⟩,.int .i64 fm,.int .i64 d,.int .i64 l],.int .i64 p,.int .i64 (dp+1)] V (DA k bs lim V (rd p))):=cJ;have ch:=Ap b0;have bu:=Ap b5;have bq:=Ap b2;have az:=λV=>cS V (i+1) (by omega);obtain⟨Q,bk⟩:∃Q,Q=CI bs l (bs.length+1-(i+1)) (i+1):=⟨_,rfl⟩
 obtain⟨b7,cr⟩:=Zs hl b3 bk HR.out;rw[<-bk]at az;have c7:=b7.1;have ai:=λV=>cH V Q;have cx:decide (d<=dp)=false:=by simp;omega
 clear hc hv hp hl hi b3 cJ b2 b0 b5 bk HR;rcases cr with⟨F,H,I,he,bx,ag⟩|⟨a4,bz⟩
 ·rw[I]at ai;have cl:=λV=>D6 bs Q F H V;have a9:((F.toNat:Int)==93)=true:=by rw[he];rfl
  have bd:=Ap bx;have bw:=Ap ag;have db:=B9 H;clear H I he bx ag cH cB cS bp bq b7;unfold AF;go_enter func90,ntmps90
  go_wp2_with(first
   |(go_at_call 35;refine BN (az _) w.out.next (λ_ h=>h.box) ?_;clear az m o c2 r t b;intro J v m o c2 r;have t:J.cell? ⟨W.heap.size+1+1+1,0,none⟩=some (.int .i64 6):=Ar v.out.tv 0;have b:J.cell? ⟨W.heap.size+1+1+1,4,none⟩=some (.slice none 0 0):=Ar v.out.tv 4)
   |(go_at_call 57;refine BN (ai _) v.out.next (λ_ h=>h.box) ?_;clear ai m o c2 r t b;intro w3 M m o c2 r;have t:w3.cell? ⟨W.heap.size+1+1+1,0,none⟩=some (.int .i64 6):=Ar M.out.tv 0;have b:w3.cell? ⟨W.heap.size+1+1+1,4,none⟩=some (.slice none 0 0):=Ar M.out.tv 4)
   |((with_reducible refine zT 9 21 rfl rfl (W.heap.size+3) (Ax 6 0 ⟨#[]⟩ AK AK) ?_ ?_);exact⟨rfl,rfl,Ql W _,thg⟩;refine DM ?_;intro V0 au;have w:Hid (CS W (AF bs fm d l) (Ax 6 0 ⟨#[]⟩ AK AK) V0):=au▸Qk W _ _;clear au;obtain⟨m,o,c2,r⟩:=BF w.out.box;have t:V0.cell? ⟨W.heap.size+1+1+1,0,none⟩=some (.int .i64 6):=Ar w.out.tv 0;have b:V0.cell? ⟨W.heap.size+1+1+1,4,none⟩=some (.slice none 0 0):=Ar w.out.tv 4)
   |((with_reducible refine B3 rfl 62 (.tmp 9) rfl (W.heap.size+3) ?hx 62 (Ax 6 0 ⟨#[]⟩ AK AK) (0,0) _ ?hg underlying62 rfl ?hi ?_);(case hx=>exact rfl);(case hg=>exact M.out.tv);(case hi=>exact Iu _ _ _ _ _))
   |((with_reducible refine zT 6 43 rfl rfl (W.heap.size+1) (Ax 6 0 ⟨#[]⟩ AK AK) ?_ ?_);exact⟨rfl,rfl,M.out.th,thg⟩)
   |((with_reducible refine zF 8 46 rfl rfl (W.heap.size+2) (0,0) ?_ ?_);exact⟨rfl,rfl,EI M.out.rth Bb _⟩))
  have G:=Dy M.out.rth Bb (Ax 6 0 ⟨#[]⟩ AK AK) (0,0);refine Dz results90 G (.int .i64 ((Q:Int)+1)) rfl rfl rfl rfl ⟨G.2.2,?_⟩;exact⟨.ok (.agg [],Q+1),.inl (by rw[bd.out];rfl),bw.out,_,_,_,_,_,_,_,_,_,rfl,(TQ k _ (W.heap.size) (λ_=>False)).list (AB _)⟩
 have aa:=Ap bz;have cp:(Bo bs l Q=false)\/(∃c,bs[Q]?=some c/\Bo bs l Q=true/\((c.toNat:Int)==93)=false):=by
  rcases a4 with h|⟨c,h1,h2,h3⟩
  ·exact .inl h
  exact .inr ⟨c,h1,h2,by simp;omega⟩
 clear a4 bz;rcases cp with a4|⟨F,H,I,a9⟩
 focus
  rw[a4]at ai;clear a4
 rotate_left
 focus
  rw[I]at ai;have c4:=λV=>D6 bs Q F H V;have dc:=B9 H;clear I H
 all_goals
  unfold AF;go_enter func90,ntmps90
  go_wp2_with(first
   |(go_at_call 35;refine EG (az _) w.out.next ?_;clear az m o c2 r t b;intro J a0 v;obtain⟨m,o,c2,r⟩:=BF v.out.box;have t:J.cell? ⟨W.heap.size+1+1+1,0,none⟩=some (.int .i64 6):=Ar v.out.tv 0;have b:J.cell? ⟨W.heap.size+1+1+1,4,none⟩=some (.slice none 0 0):=Ar v.out.tv 4)
   |(go_at_call 57;refine EG (ai _) v.out.next ?_;clear ai m o c2 r t b;intro w3 al M;obtain⟨m,o,c2,r⟩:=BF M.out.box;have t:w3.cell? ⟨W.heap.size+1+1+1,0,none⟩=some (.int .i64 6):=Ar M.out.tv 0;have b:w3.cell? ⟨W.heap.size+1+1+1,4,none⟩=some (.slice none 0 0):=Ar M.out.tv 4)
   |((with_reducible refine zT 9 21 rfl rfl (W.heap.size+3) (Ax 6 0 ⟨#[]⟩ AK AK) ?_ ?_);exact⟨rfl,rfl,Ql W _,thg⟩;refine DM ?_;intro V0 au;have w:Hid (CS W (AF bs fm d l) (Ax 6 0 ⟨#[]⟩ AK AK) V0):=au▸Qk W _ _;clear au;obtain⟨m,o,c2,r⟩:=BF w.out.box;have t:V0.cell? ⟨W.heap.size+1+1+1,0,none⟩=some (.int .i64 6):=Ar w.out.tv 0;have b:V0.cell? ⟨W.heap.size+1+1+1,4,none⟩=some (.slice none 0 0):=Ar w.out.tv 4))
  go_loopg[1] (bs.length+1-Q) (λab cf wr=>∃(p:Nat) (y:List (DataW Unit)) (a:Option Addr) (n c:Nat),cf=.int .i64 p/\Hid (bs.length+1<=p+ab)/\Hid (J7 bs lim (Cv rd) 93 ab p y be)/\Hid (y.length<=p)/\Hid (CS W (AF bs fm d l) (Ax 6 0 ⟨#[]⟩ AK (.slice a n c)) wr)/\Hid (I2 k wr (W.heap.size+4) (.slice a n c) (λ_=>False) y))
  case atStart=>exact⟨Q,[],none,0,0,rfl,by show _<=_;omega,aa,Cy _,M,TQ _ _ _ _⟩
  case round =>
   clear aa w v M a0 al m o c2 r t b;obtain⟨p,y,a,n,c,rfl,hg,aa,a3,w,aw⟩:=hrel;have da:(p:Int)<=200000000:=R0 aa.out.1.2 co;have c6:=aa.out.1.1;have dh:=w.out.size;obtain⟨m,o,c2,r⟩:=BF w.out.box;have t:wr.cell? ⟨W.heap.size+1+1+1,0,none⟩=some (.int .i64 6):=Ar w.out.tv 0;have b:wr.cell? ⟨W.heap.size+1+1+1,4,none⟩=some (.slice a n c):=Ar w.out.tv 4;have cs:wr.cell? ⟨W.heap.size+3,0,none⟩=some (.int .i64 6):=t;have n0:W.heap.size+1+1+1<wr.heap.size:=by omega
   have n2:W.heap.size+3<wr.heap.size:=by omega
   have n1:W.heap.size<wr.heap.size:=by omega
   go_wp2_with fail
   refine(bp.out _ p ((w.out.below.alloc w.out.below.size _).alloc (by simp;have:=w.out.below.size;omega) _) aa.out.1).mono ?_;clear m o c2 r t b n0 n1 n2 cs;rintro aj J ⟨a0,r',b6,he⟩;have dg:wr.heap.size+2<=J.heap.size:=by have:=a0.size;simp only[AM,A1]at this;omega
   have al:Below (wr.heap.size+2) ((wr.alloc (.cells (Aw (0,0)) 64)).alloc (.cells AR 62)) J:=by
    have h:=a0;simp only[AM,A1]at h;exact h
   clear a0;have HV:Hid (∀a f,Below wr.heap.size wr ((J.setRow (wr.heap.size+1) a).setRow wr.heap.size f)):=λa f=>qW wr J a f al;have HK:Hid (J.heap[wr.heap.size+1]?=some (.cells AR 62)):=(al.block _ (by omega)).trans (by have:=Ay (wr.alloc (.cells (Aw (0,0)) 64)) (.cells AR 62);simpa only[AM]using this);have HF:=Ap ((al.block _ (by omega)).trans ((AL _ _ _ (by simp)).trans (Ay _ _)));have bc:Hid (∀ab,(Value.slice a n c).ownBlock=some ab->ab<wr.heap.size):=by
    obtain⟨xs,ho,_⟩:=aw.out;exact λab hg=>GE ho hg
   have bb:=Ap b6;clear b6
   cases r' with
   |error f =>
    obtain⟨x,Z,s,T,Y,z,U,q1,R,cf,rfl⟩:=he;have c5:(f.1==0)=false:=by
     have:=Zh bb.out (ch.out p) f.1 f.2 rfl;simpa using this
    simp only[]
    go_wp2_with(first
     |((with_reducible refine zT 12 65 rfl rfl (wr.heap.size+1) (Ax x Z s (.slice T Y z) (.slice U q1 R)) ?_ ?_);exact⟨rfl,rfl,HK.out,thg⟩)
     |((with_reducible refine zF 11 67 rfl rfl (wr.heap.size) (f) ?_ ?_);exact⟨rfl,rfl,sx (by omega) HF.out⟩;refine DM ?_;intro C K;have v:=Ap (K▸w.out.next (HV.out _ _));have ax:=Ap (K▸aw.out.next (HV.out _ _).size (λj _ u=>(HV.out _ _).block j u));have av:Hid (C.heap[wr.heap.size+1]?=some (.cells #[.int .i64 x,.int .i64 Z,.string s,.slice T Y z,.slice U q1 R] 62)):=K▸sx (by omega) (B4 _ _ _ _ _ _ HK.out);have g:=Ap (K▸B4 _ _ _ _ _ _ (sx (by omega) HF.out));clear K;obtain⟨xs,ho,a2⟩:=ax.out;have HO:=Ap ho;have a5:Hid (∀(i:Nat) (d:DataW Unit),y[i]?=some d->∃a',FH xs i a'/\BG k C (λj=>W.heap.size+4<=j/\j<C.heap.size/\some j≠(Value.slice a n c).ownBlock/\¬False) (.agg a') d):=a2;clear ho a2 ax;obtain⟨m,o,c2,r⟩:=BF v.out.box;have t:C.cell? ⟨W.heap.size+1+1+1,0,none⟩=some (.int .i64 6):=Ar v.out.tv 0;have b:C.cell? ⟨W.heap.size+1+1+1,4,none⟩=some (.slice a n c):=Ar v.out.tv 4)
     |((with_reducible refine B3 rfl 62 (.tmp 12) rfl (wr.heap.size+1) ?hx 62 (#[.int .i64 x,.int .i64 Z,.string s,.slice T Y z,.slice U q1 R]) (0,0) _ ?hg underlying62 rfl ?hi ?_);(case hx=>exact rfl);(case hg=>exact av.out);(case hi=>exact Lo))
     |(at_builtin;(refine M9 _ rfl _ _ 60 rfl (W.heap.size+4) 62 ti (.agg AR) 5 80 underlying60 cc b9 ca cb rfl (by decide) _ _ _ rfl (HO.out.alloc _) ⟨C.heap.size,0,none⟩ 1 1 [.int .i64 x,.int .i64 Z,.string s,.slice T Y z,.slice U q1 R] rfl rfl (Bf _ _ _) (TR _ _ _ _ _ _ _ _ _) (by decide) (by have:=a3.out;unfold maxLen;omega) (by have:=a3.out;omega) (by have:=v.out.size;simp;omega) ?_);intro v' B aq ae a8;obtain⟨P,O,rfl⟩:=ownsRow_succ aq;have q:=Ap (ZA v.out HO.out ae);have am:=Ap ((ae.block _ (by simp;have:=At g.out;omega) (λaj=>by have:=bc.out _ aj.symm;omega)).trans ((AL _ _ _ (At g.out)).trans g.out));clear aq ae a8 m o c2 r t b;have b:B.cell? ⟨W.heap.size+1+1+1,4,none⟩=some (.slice a n c):=Ar q.out.tv 4;have f4:B.frozen? ⟨W.heap.size+1+1+1,4,none⟩=false:=Cx B (W.heap.size+3) 4 _ _ q.out.tv;have u0:B.cell? ⟨wr.heap.size,0,none⟩=some (.int .i64 (f.1)):=Ar am.out 0))
    have HE:=Ap (r8 aa.out bb.out bu.out);have an:Hid (CS W (AF bs fm d l) (Ax 6 0 ⟨#[]⟩ AK (.slice (some ⟨P,0,none⟩) (y.length+1) O)) (B.setCell ⟨W.heap.size+1+1+1,4,none⟩ (.slice (some ⟨P,0,none⟩) (y.length+1) O))):=ZB q.out _;have ci:Hid ((B.setCell ⟨W.heap.size+1+1+1,4,none⟩ (.slice (some ⟨P,0,none⟩) (y.length+1) O)).heap[wr.heap.size]?=some (.cells (Aw f) 64)):=(BV B _ _ _ (by simp;omega)).trans am.out;generalize B.setCell ⟨W.heap.size+1+1+1,4,none⟩ (.slice (some ⟨P,0,none⟩) (y.length+1) O)=V6 at *;clear q am b f4 HO a5 v av g HK HF HV al w aw;refine Cp (S:=λbf=>bf.heap[wr.heap.size]?=some (.cells (Aw f) 64)) (ci.out) (by kernel_rfl) ?_;intro hS;refine AD 0 77 (.agg AR) rfl (λbf hZ=>?y0) hS ?_
    case y0=>(unfold AR Ax AK;go_simp)
    refine AD 1 78 (.agg (Aw f)) rfl (λbf hZ=>yF 11 hZ rfl rfl) hS ?_;have bi:=(BO _ (W.heap.size+1) wr.heap.size AR (by omega)).trans hS;refine I1 2 6 77 (W.heap.size+1) (AR) (by kernel_rfl) (an.out.th) thg (bi) ?_;refine Au 3 7 (.int .i64 0) bi ?_;refine sF 4 8 78 (W.heap.size+2) f (by kernel_rfl) (EI (V:=V6) an.out.rth Bb _) (sx (by omega) bi) ?_;refine Bw ?_;go_simp;go_wp2;have G:=Dy an.out.rth.drew Bb (AR) (f);refine Dz results90 G (.int .i64 0) rfl rfl rfl rfl ⟨G.2.2,?_⟩;exact⟨.error (f),.inl (by rw[HE.out];rfl),_,_,_,_,_,_,_,_,_,_,rfl⟩
   |ok bn =>
    obtain⟨dd,ar⟩:=bn;obtain⟨ag,x,Z,s,T,Y,z,U,q1,R,rfl,hA⟩:=he;simp only[];have bw:=Ap ag;have A:True:=trivial;have HA:Hid (BG k J (λj=>wr.heap.size+2<=j/\j<J.heap.size) (.agg #[.int .i64 x,.int .i64 Z,.string s,.slice T Y z,.slice U q1 R]) dd):=hA.same (λj u=>⟨by have:=u.1;simp only[AM,A1]at this;omega,u.2⟩) (λ_ _=>rfl);clear hA
    go_wp2_with(first
     |((with_reducible refine zT 12 65 rfl rfl (wr.heap.size+1) (Ax x Z s (.slice T Y z) (.slice U q1 R)) ?_ ?_);exact⟨rfl,rfl,HK.out,thg⟩)
     |((with_reducible refine zF 11 67 rfl rfl (wr.heap.size) (0,0) ?_ ?_);exact⟨rfl,rfl,sx (by omega) HF.out⟩;refine DM ?_;intro C K;have v:=Ap (K▸w.out.next (HV.out _ _));have ax:=Ap (K▸aw.out.next (HV.out _ _).size (λj _ u=>(HV.out _ _).block j u));have av:Hid (C.heap[wr.heap.size+1]?=some (.cells #[.int .i64 x,.int .i64 Z,.string s,.slice T Y z,.slice U q1 R] 62)):=K▸sx (by omega) (B4 _ _ _ _ _ _ HK.out);have g:=Ap (K▸B4 _ _ _ _ _ _ (sx (by omega) HF.out));have bo:Hid (BG k C (λj=>wr.heap.size+2<=j/\j<C.heap.size) (.agg #[.int .i64 x,.int .i64 Z,.string s,.slice T Y z,.slice U q1 R]) dd):=K▸HA.out.same (λj u=>⟨u.1,by simpa using u.2⟩) (λj u=>by rw[BO _ _ _ _ (by omega),BO _ _ _ _ (by omega)]);clear K;obtain⟨xs,ho,a2⟩:=ax.out;have HO:=Ap ho;have a5:Hid (∀(i:Nat) (d:DataW Unit),y[i]?=some d->∃a',FH xs i a'/\BG k C (λj=>W.heap.size+4<=j/\j<C.heap.size/\some j≠(Value.slice a n c).ownBlock/\¬False) (.agg a') d):=a2;clear ho a2 ax;obtain⟨m,o,c2,r⟩:=BF v.out.box;have t:C.cell? ⟨W.heap.size+1+1+1,0,none⟩=some (.int .i64 6):=Ar v.out.tv 0;have b:C.cell? ⟨W.heap.size+1+1+1,4,none⟩=some (.slice a n c):=Ar v.out.tv 4)
     |((with_reducible refine B3 rfl 62 (.tmp 12) rfl (wr.heap.size+1) ?hx 62 (#[.int .i64 x,.int .i64 Z,.string s,.slice T Y z,.slice U q1 R]) (0,0) _ ?hg underlying62 rfl ?hi ?_);(case hx=>exact rfl);(case hg=>exact av.out);(case hi=>exact Lo))
     |(at_builtin;(refine M9 _ rfl _ _ 60 rfl (W.heap.size+4) 62 ti (.agg AR) 5 80 underlying60 cc b9 ca cb rfl (by decide) _ _ _ rfl (HO.out.alloc _) ⟨C.heap.size,0,none⟩ 1 1 [.int .i64 x,.int .i64 Z,.string s,.slice T Y z,.slice U q1 R] rfl rfl (Bf _ _ _) (TR _ _ _ _ _ _ _ _ _) (by decide) (by have:=a3.out;unfold maxLen;omega) (by have:=a3.out;omega) (by have:=v.out.size;simp;omega) ?_);intro v' B aq ae a8;obtain⟨P,O,rfl⟩:=ownsRow_succ aq;have q:=Ap (ZA v.out HO.out ae);have am:=Ap ((ae.block _ (by simp;have:=At g.out;omega) (λaj=>by have:=bc.out _ aj.symm;omega)).trans ((AL _ _ _ (At g.out)).trans g.out));have br:=Ap (I2.push (L:=wr.heap.size+2) HO.out a5.out bo.out (λab hg=>by have:=bc.out ab hg;omega) (by omega) (λ_ _ h=>h) rfl aq ae a8);clear aq ae a8 m o c2 r t b;have b:B.cell? ⟨W.heap.size+1+1+1,4,none⟩=some (.slice a n c):=Ar q.out.tv 4;have f4:B.frozen? ⟨W.heap.size+1+1+1,4,none⟩=false:=Cx B (W.heap.size+3) 4 _ _ q.out.tv;have u0:B.cell? ⟨wr.heap.size,0,none⟩=some (.int .i64 (0)):=Ar am.out 0;obtain⟨m,o,c2,r⟩:=BF q.out.box))
    obtain⟨D,bl⟩:∃D,D=CI bs l (bs.length+1-ar) ar:=⟨_,rfl⟩
    obtain⟨b8,cq⟩:=r9 HL.out aa.out bb.out bu.out bq.out ag hg.out bl;have df:=ag.1;have c9:=b8.1;have bg:=λV=>cS V ar ag.1;rw[<-bl]at bg;have e:=λV=>cH V D;have ao:=λV=>cB V D 9;have an:Hid (CS W (AF bs fm d l) (Ax 6 0 ⟨#[]⟩ AK (.slice (some ⟨P,0,none⟩) (y.length+1) O)) (B.setCell ⟨W.heap.size+1+1+1,4,none⟩ (.slice (some ⟨P,0,none⟩) (y.length+1) O))):=ZB q.out _;have bt:Hid (I2 k (B.setCell ⟨W.heap.size+1+1+1,4,none⟩ (.slice (some ⟨P,0,none⟩) (y.length+1) O)) (W.heap.size+4) (.slice (some ⟨P,0,none⟩) (y.length+1) O) (λ_=>False) (y++[dd])):=br.out.next (by simp[World.setCell]) (λj cm cn=>BV B _ _ _ (by simp;omega))
    refine(bg _).mono ?_;rintro aj w7 ⟨rfl,a7⟩;have ay:=Ap (an.out.next a7);have a6:=Ap (bt.out.next a7.size (λj _ u=>a7.block j u));clear ag bl b8 bg m o c2 r b f4 an bt a7 br q am HO a5 v av g bo HK HF HV al w aw HA;simp only[];obtain⟨m,o,c2,r⟩:=BF ay.out.box;have t:=A;have b:=A;rcases cq with⟨I,ad⟩|⟨F,H,I,hx⟩
    ·rw[I]at e;have HE:=Ap ad;generalize BM bs l D 9=xx at *;clear I ad cS cH cB
     go_wp2_with(first
      |(go_at_call 57;refine EG (e _) ay.out.next ?_;clear e m o c2 r t b;intro w8 X E;have ah:=Ap (a6.out.next X.size (λj _ u=>X.block j u));obtain⟨m,o,c2,r⟩:=BF E.out.box;have t:=A;have b:=A)
      |(go_at_call 37;refine EG (ao _) E.out.next ?_;clear ao m o c2 r t b;intro w9 ac N;have ba:=Ap (ah.out.next ac.size (λj _ u=>ac.block j u));obtain⟨m,o,c2,r⟩:=BF N.out.box;have t:=A;have b:=A)
      |((with_reducible refine zT 6 101 rfl rfl (W.heap.size+1) (AR) ?_ ?_);exact⟨rfl,rfl,N.out.th,thg⟩)
      |((with_reducible refine zF 8 104 rfl rfl (W.heap.size+2) (xx) ?_ ?_);exact⟨rfl,rfl,EI N.out.rth Bb _⟩))
     have G:=Dy N.out.rth Bb (AR) (xx);refine Dz results90 G (.int .i64 0) rfl rfl rfl rfl ⟨G.2.2,?_⟩;exact⟨.error (xx),.inl (by rw[HE.out];rfl),_,_,_,_,_,_,_,_,_,_,rfl⟩
    rw[I]at e;have cl:=λV=>D6 bs D F H V;have c8:=B9 H;rcases hx with⟨ak,ad,af⟩|⟨ak,ap,af,g',ck,de,b4⟩|⟨ak,ap,ad⟩
    ·have a9:((F.toNat:Int)==93)=true:=by rw[ak];rfl
     have cd:((F.toNat:Int) != 93)=false:=by rw[ak];rfl
     have bd:=Ap ad;have cj:=Ap af;clear I ak ad af H cS cH cB ao
     go_wp2_with(first
      |(go_at_call 57;refine EG (e _) ay.out.next ?_;clear e m o c2 r t b;intro w8 X E;have ah:=Ap (a6.out.next X.size (λj _ u=>X.block j u));obtain⟨m,o,c2,r⟩:=BF E.out.box;have t:=A;have b:=A)
      |((with_reducible refine B3 rfl 62 (.tmp 9) rfl (W.heap.size+3) ?hx 62 (Ax 6 0 ⟨#[]⟩ AK (.slice (some ⟨P,0,none⟩) (y.length+1) O)) (0,0) _ ?hg underlying62 rfl ?hi ?_);(case hx=>exact rfl);(case hg=>exact E.out.tv);(case hi=>exact Iu _ _ _ _ _))
      |((with_reducible refine zT 6 111 rfl rfl (W.heap.size+1) (Ax 6 0 ⟨#[]⟩ AK (.slice (some ⟨P,0,none⟩) (y.length+1) O)) ?_ ?_);exact⟨rfl,rfl,E.out.th,thg⟩)
      |((with_reducible refine zF 8 114 rfl rfl (W.heap.size+2) (0,0) ?_ ?_);exact⟨rfl,rfl,EI E.out.rth Bb _⟩))
     have G:=Dy E.out.rth Bb (Ax 6 0 ⟨#[]⟩ AK (.slice (some ⟨P,0,none⟩) (y.length+1) O)) (0,0);refine Dz results90 G (.int .i64 ((D:Int)+1)) rfl rfl rfl rfl ⟨G.2.2,?_⟩;exact⟨.ok (.agg (y++[dd]),D+1),.inl (by rw[bd.out];rfl),cj.out,_,_,_,_,_,_,_,_,_,rfl,(ah.out.next (by simp) (λj cm cn=>by rw[BO _ _ _ _ (by omega),BO _ _ _ _ (by omega)])).list (by omega)⟩
    ·have a9:((F.toNat:Int)==93)=false:=by rw[ap];rfl
     have cd:((F.toNat:Int) != 93)=true:=by rw[ap];rfl
     have ct:((F.toNat:Int) != 44)=false:=by rw[ap];rfl
     subst ck;have bh:=λV=>cS V (D+1) af.1;obtain⟨p4,bm⟩:∃p4,p4=CI bs l (bs.length+1-(D+1)) (D+1):=⟨_,rfl⟩
     have bj:=Zq HL.out af b4;rw[<-bm]at bj bh;have bv:Hid (D+1<=p4):=by
      show _<=_;rw[bm];rcases J2 HL.out (bs.length+1-(D+1)) (D+1) af with⟨q',_,h2,_,h4,_⟩|⟨q',_,h2,h3,_⟩
      ·rw[h2];exact h4
      rw[h2];have:=af.2;omega
     have cg:=Ap bj;clear I ak ap af H cS cH cB ao b4 bm bj
     go_wp2_with(first
      |(go_at_call 57;refine EG (e _) ay.out.next ?_;clear e m o c2 r t b;intro w8 X E;have ah:=Ap (a6.out.next X.size (λj _ u=>X.block j u));obtain⟨m,o,c2,r⟩:=BF E.out.box;have t:=A;have b:=A)
      |(go_at_call 35;refine EG (bh _) E.out.next ?_;clear bh m o c2 r t b;intro w9 ac N;have ba:=Ap (ah.out.next ac.size (λj _ u=>ac.block j u));obtain⟨m,o,c2,r⟩:=BF N.out.box;have t:=A;have b:=A))
     go_roundg (g'+1)
     case measure=>omega
     case rel=>exact⟨p4,y++[dd],_,_,_,rfl,by show _<=_;have:=hg.out;have:=bv.out;omega,cg,by show _<=_;rw[AC];have:=a3.out;have:=bv.out;simp;omega,N,ba⟩
    have a9:((F.toNat:Int)==93)=false:=by simp;omega
    have cd:((F.toNat:Int) != 93)=true:=by simp;omega
    have ct:((F.toNat:Int) != 44)=true:=by simp;omega
    have HE:=Ap ad;generalize BM bs l D 9=xx at *;clear I ak ap ad H cS cH cB
    go_wp2_with(first
     |(go_at_call 57;refine EG (e _) ay.out.next ?_;clear e m o c2 r t b;intro w8 X E;have ah:=Ap (a6.out.next X.size (λj _ u=>X.block j u));obtain⟨m,o,c2,r⟩:=BF E.out.box;have t:=A;have b:=A)
     |(go_at_call 37;refine EG (ao _) E.out.next ?_;clear ao m o c2 r t b;intro w9 ac N;have ba:=Ap (ah.out.next ac.size (λj _ u=>ac.block j u));obtain⟨m,o,c2,r⟩:=BF N.out.box;have t:=A;have b:=A)
     |((with_reducible refine zT 6 101 rfl rfl (W.heap.size+1) (AR) ?_ ?_);exact⟨rfl,rfl,N.out.th,thg⟩)
     |((with_reducible refine zF 8 104 rfl rfl (W.heap.size+2) (xx) ?_ ?_);exact⟨rfl,rfl,EI N.out.rth Bb _⟩))
    have G:=Dy N.out.rth Bb (AR) (xx);refine Dz results90 G (.int .i64 0) rfl rfl rfl rfl ⟨G.2.2,?_⟩;exact⟨.error (xx),.inl (by rw[HE.out];rfl),_,_,_,_,_,_,_,_,_,_,rfl⟩
structure MG(W W':World)(kv u:Value):Prop where
 os:W'.os=W.os
 tape:W'.tape=W.tape
 output:W'.output=W.output
 size:W.heap.size<=W'.heap.size
 block:∀j,j<W.heap.size->some j≠kv.ownBlock->some j≠u.ownBlock->W'.heap[j]?=W.heap[j]?
theorem MH{W':Al}(h:A1 W W')(b u:Am):MG W W' b u:=⟨h.os,h.tape,h.output,h.size,λj a _ _=>h.block j a⟩
def Lp(k:Nat)(bs:A2)(lim:Int)(W:Al)(b:Nat)(kv u:Am)(ex:Nat->Prop)(kl:List A2)(ds:List (DataW Unit))(r:Except (Int×Int) ((List A2×List (Lit×DataW Unit))×Nat))(e:Ending)(W':Al):Prop :=
 MG W W' kv u/\∃r',Ep bs lim r r'/\match r' with
 |.ok (x,q)=>AS bs lim q/\∃l dd a n c a' n' c',x=(l::kl.reverse,Fq kl ds++[(.string l,dd)])/\e=.returned (.tuple #[.agg (Ax 7 0 ⟨#[]⟩ (.slice a n c) (.slice a' n' c')),.int .i64 q,.agg (Aw (0,0))])/\DH k W' b (.slice a n c) (.slice a' n' c') ex (kl++[l]) (ds++[dd])
 |.error f=>∃kd n s a i j b p m z,e=.returned (.tuple #[.agg (Ax kd n s (.slice a i j) (.slice b p m)),.int .i64 z,.agg (Aw f)])
structure CN(W:World)(A y:A4)(V:World):Prop where
 box:V.heap[W.heap.size]?=some (.cells A 102)
 mv:V.heap[W.heap.size+1]?=some (.cells y 62)
 th:V.heap[W.heap.size+2]?=some (.cells AR 62)
 flt:V.heap[W.heap.size+3]?=some (.cells (Aw (0,0)) 64)
 below:A1 W V
structure FI(W:World)(A y:A4)(Z:World):Prop where
 box:Z.heap[W.heap.size]?=some (.cells A 102)
 mv:Z.heap[W.heap.size+1]?=some (.cells y 62)
theorem CN.s(h:CN W A y V):FI W A y V:=⟨h.box,h.mv⟩
theorem FI.set(h:FI W A y V)(j:Nat)(cs:A4)(a:W.heap.size+2<=j):FI W A y (V.setRow j cs):=⟨sx (by omega) h.box,sx (by omega) h.mv⟩
theorem FI.lt(h:FI W A y V):W.heap.size+1<V.heap.size:=At h.mv
theorem FI.new(h:FI W A y V)(o:Obj):FI W A y (V.alloc o):=⟨(AL _ _ _ (by have:=h.lt;omega)).trans h.box,(AL _ _ _ h.lt).trans h.mv⟩
theorem CN.next(h:CN W A y V)(a:A1 V V'):CN W A y V' :=
 ⟨(a.block _ (At h.box)).trans h.box,(a.block _ (At h.mv)).trans h.mv,(a.block _ (At h.th)).trans h.th,(a.block _ (At h.flt)).trans h.flt,h.below.trans (a.mono h.below.size)⟩
theorem CN.drew(h:CN W A y V):CN W A y V.drew:=⟨h.box,h.mv,h.th,h.flt,h.below.drew⟩
theorem CN.size(h:CN W A y V):W.heap.size+4<=V.heap.size:=At h.flt
theorem CN.set(h:CN W A y V)(j:Nat)(cs:A4)(a:W.heap.size+4<=j):CN W A y (V.setRow j cs) :=
 ⟨sx (by omega) h.box,sx (by omega) h.mv,sx (by omega) h.th,sx (by omega) h.flt,Bu h.below (by omega) _⟩
theorem MI(W:Al)(A y:A4):CN W A y ((((W.alloc (Af A 102)).alloc (Af y 62)).alloc (Af AR 62)).alloc (Af (Aw (0,0)) 64)):=by
 have d:=Ay W (Af A 102);have a:=Ay (W.alloc (Af A 102)) (Af y 62);have b:=Ay ((W.alloc (Af A 102)).alloc (Af y 62)) (Af AR 62);have c:=Ay (((W.alloc (Af A 102)).alloc (Af y 62)).alloc (Af AR 62)) (Af (Aw (0,0)) 64);simp only[AM,A1]at a b c;have e:A1 W ((((W.alloc (Af A 102)).alloc (Af y 62)).alloc (Af AR 62)).alloc (Af (Aw (0,0)) 64)):=(((AH).alloc (by simp) _).alloc (by simp;omega) _).alloc (by simp;omega) _;refine⟨?_,?_,?_,c,e⟩
 ·rw[AL _ _ _ (by simp only[AM,A1];omega),AL _ _ _ (by simp only[AM,A1];omega),AL _ _ _ (by simp only[AM,A1];omega)];exact d
 ·rw[AL _ _ _ (by simp only[AM,A1];omega),AL _ _ _ (by simp only[AM,A1];omega)];exact a
 rw[AL _ _ _ (by simp only[AM,A1];omega)];exact b
theorem CN.fin(h:CN W A y V)(z:A4)(x:Int×Int):((V.setRow (W.heap.size+2) z).setRow (W.heap.size+3) (Aw x)).heap[W.heap.size+2]?=Aj (Af z 62)/\((V.setRow (W.heap.size+2) z).setRow (W.heap.size+3) (Aw x)).heap[W.heap.size+3]?=Aj (Af (Aw x) 64)/\A1 W ((V.setRow (W.heap.size+2) z).setRow (W.heap.size+3) (Aw x)):=by
 refine⟨?_,?_,Bu (Bu h.below (by omega) _) (by omega) _⟩
 ·rw[BO _ _ _ _ (by omega)];exact B4 _ _ _ _ _ _ h.th
 exact B4 _ _ _ _ _ _ (sx (by omega) h.flt)
theorem CN.map(h:CN W A y V)(c:DH k W b kv u ex kl ds):DH k V b kv u ex kl ds:=c.next h.below.size (λj _ a _=>h.below.block j a)
structure Fs(W:World)(y:A4)(kv u:Value)(V:World):Prop where
 mv:V.heap[W.heap.size+1]?=some (.cells y 62)
 th:V.heap[W.heap.size+2]?=some (.cells AR 62)
 flt:V.heap[W.heap.size+3]?=some (.cells (Aw (0,0)) 64)
 two:MG W V kv u
theorem Fs.size(h:Fs W y kv u V):W.heap.size+4<=V.heap.size:=At h.flt
theorem CN.w(h:CN W A y V)(a u:Am):Fs W y a u V:=⟨h.mv,h.th,h.flt,MH h.below a u⟩
theorem Fs.drew(h:Fs W y kv u V):Fs W y kv u V.drew:=⟨h.mv,h.th,h.flt,⟨h.two.os,h.two.tape,h.two.output,h.two.size,h.two.block⟩⟩
theorem Fs.grow(h:Fs W y kv u V){x:Option Nat}(k:∀g,x=Aj g->g<W.heap.size/\(x=kv.ownBlock\/x=u.ownBlock))(a:(V.alloc o).grownBy w5 x):Fs W y kv u w5:=by
 have n:=h.size;have m:V.heap.size+1<=w5.heap.size:=by have:=a.size;simpa using this
 have c:∀j,W.heap.size<=j->j<V.heap.size->w5.heap[j]?=V.heap[j]?:=λj i l=>(a.block j (by simp;omega) (λe=>by have:=(k j e.symm).1;omega)).trans (AL _ _ _ l);refine⟨(c _ (by omega) (by omega)).trans h.mv,(c _ (by omega) (by omega)).trans h.th,(c _ (by omega) (by omega)).trans h.flt,a.os.trans h.two.os,a.tape.trans h.two.tape,a.output.trans h.two.output,by omega,λj i d f=>?_⟩;refine(a.block j (by simp;omega) (λe=>?_)).trans ((AL _ _ _ (by omega)).trans (h.two.block j i d f));rcases(k j e.symm).2 with b|b
 ·exact d (e.trans b)
 exact f (e.trans b)
theorem Fs.cell{s:ByteArray}{kx ux:Am}(h:Fs W (Ax kd n s kx ux) kv u V)(a:Am):Fs W (Ax kd n s a ux) kv u (V.setCell ⟨W.heap.size+1,3,Ak⟩ a)/\Fs W (Ax kd n s kx a) kv u (V.setCell ⟨W.heap.size+1,4,Ak⟩ a):=by
 have b:∀i j,j≠W.heap.size+1->(V.setCell ⟨W.heap.size+1,i,Ak⟩ a).heap[j]?=V.heap[j]?:=λi j c=>BV V _ _ _ (by simpa using c);have d:∀i,MG W (V.setCell ⟨W.heap.size+1,i,Ak⟩ a) kv u:=λi=>⟨h.two.os,h.two.tape,h.two.output,by have:=h.two.size;simpa[World.setCell]using this,λj c e f=>(b i j (by omega)).trans (h.two.block j c e f)⟩
 refine⟨⟨?_,(b _ _ (by omega)).trans h.th,(b _ _ (by omega)).trans h.flt,d 3⟩,⟨?_,(b _ _ (by omega)).trans h.th,(b _ _ (by omega)).trans h.flt,d 4⟩⟩
 ·rw[DJ _ _ _ _ _ _ h.mv];rfl
 rw[DJ _ _ _ _ _ _ h.mv];rfl
theorem Fs.fin(h:Fs W y kv u V)(z:A4)(x:Int×Int):((V.setRow (W.heap.size+2) z).setRow (W.heap.size+3) (Aw x)).heap[W.heap.size+2]?=Aj (Af z 62)/\((V.setRow (W.heap.size+2) z).setRow (W.heap.size+3) (Aw x)).heap[W.heap.size+3]?=Aj (Af (Aw x) 64)/\MG W ((V.setRow (W.heap.size+2) z).setRow (W.heap.size+3) (Aw x)) kv u:=by
 refine⟨?_,?_,h.two.os,h.two.tape,h.two.output,by have:=h.two.size;simpa using this,λj c a b=>?_⟩
 ·rw[BO _ _ _ _ (by omega)];exact B4 _ _ _ _ _ _ h.th
 ·exact B4 _ _ _ _ _ _ (sx (by omega) h.flt)
 rw[BO _ _ _ _ (by omega),BO _ _ _ _ (by omega)];exact h.two.block j c a b
theorem rf{L S:Nat}{V12 w13 w13' w14 wf:Al}{v' u':Am}{a:A4}(p:DH k W b kv u ex kl ds)(y:∀j,ex j->j<W.heap.size)(w:W.ownsRow b 62 5 u ds.length xs)(V:∀(i:Nat) (d:A3),ds[i]?=Aj d->∃a,FH xs i a/\BG k W (λj=>b<=j/\j<W.heap.size/\Aj j≠u.ownBlock/\¬(Aj j=kv.ownBlock\/ex j)) (.agg a) d)(hb:b<=W.heap.size)(U:∀j,j<W.heap.size->V12.heap[j]?=W.heap[j]?)(aa:BG k V12 (λj=>L<=j/\j<S) (.agg a) d)(hL:W.heap.size+4<=L)(hS:S<=V12.heap.size)(h4:W.heap.size+4<=V12.heap.size)(X:a.size=5)(C:w13.ownsRow b 9 1 v' (kl.length+1) (kl.map BU++[BU t]))(Y:∀j,j<V12.heap.size->Aj j≠kv.ownBlock->w13.heap[j]?=V12.heap[j]?)(q:v'.ownBlock=kv.ownBlock\/v'.ownBlock=Aj (V12.heap.size+1))(ad:V12.heap.size+1<=w13.heap.size)(F:∀j,j≠W.heap.size+1->w13'.heap[j]?=w13.heap[j]?)(af:w13'.heap.size=w13.heap.size)(K:w14.ownsRow b 62 5 u' (ds.length+1) (xs++a.toList))(I:∀j,j<w13'.heap.size->Aj j≠u.ownBlock->w14.heap[j]?=w13'.heap[j]?)(r:u'.ownBlock=u.ownBlock\/u'.ownBlock=Aj (w13'.heap.size+1))(ae:w13'.heap.size+1<=w14.heap.size)(z:∀j,(j<W.heap.size\/W.heap.size+4<=j)->wf.heap[j]?=w14.heap[j]?)(ag:w14.heap.size<=wf.heap.size):DH k wf b v' u' ex (kl++[t]) (ds++[d]):=by
 have M:∀g,kv.ownBlock=Aj g->g<W.heap.size:=λg e=>GE p.keys e;have E:∀g,u.ownBlock=Aj g->g<W.heap.size:=λg e=>GE w e;have ab:∀g,v'.ownBlock=Aj g->g<w13.heap.size:=λg e=>GE C e;have G:∀j,(j<W.heap.size\/W.heap.size+4<=j)->j<V12.heap.size->Aj j≠kv.ownBlock->Aj j≠u.ownBlock->wf.heap[j]?=V12.heap[j]?:=λj c Z l f=>by
  rw[z j c,I j (by omega) f,F j (by omega),Y j Z l]
 have N:∀j,j<V12.heap.size->Aj j≠kv.ownBlock->¬Aj j=v'.ownBlock:=λj c l e=>by
  rcases q with h|h
  ·exact l (e.trans h)
  rw[h]at e;injection e with e;omega
 have O:∀j,j<V12.heap.size->Aj j≠u.ownBlock->Aj j≠u'.ownBlock:=λj c l e=>by
  rcases r with h|h
  ·exact l (e.trans h)
  rw[h]at e;injection e with e;omega
 have H:∀g,v'.ownBlock=Aj g->¬u.ownBlock=Aj g:=λg e f=>by
  rcases q with h|h
  ·exact p.apart g (h.symm.trans e) f
  have:=E g f;rw[h]at e;injection e with e;omega
 refine⟨?_,⟨xs++a.toList,?_,λi T o=>?_⟩,by rw[AC,AC,p.len];rfl,λg l f=>?_,λg e m=>?_,λg e m=>?_⟩
 ·rw[AC,Eg];refine⟨C.1,?_⟩;rcases C.2 with h|⟨g,s,v,e,A,m,x⟩
  ·exact .inl h
  have ac:=At m;have n:v'.ownBlock=Aj g:=by rw[e];rfl
  have D:g<W.heap.size\/W.heap.size+4<=g:=by
   rcases q with h|h
   ·exact .inl (M g (h.symm.trans n))
   rw[h]at n;injection n with n;omega
  refine .inr ⟨g,s,v,e,A,?_,x⟩;rw[z g D,I g (by omega) (λe=>H g n e.symm),F g (by omega)];exact m
 ·rw[AC];refine⟨K.1,?_⟩;rcases K.2 with h|⟨g,s,v,e,A,m,x⟩
  ·exact .inl h
  have n:u'.ownBlock=Aj g:=by rw[e];rfl
  have D:g<W.heap.size\/W.heap.size+4<=g:=by
   rcases r with h|h
   ·exact .inl (E g (h.symm.trans n))
   rw[h]at n;injection n with n;omega
  refine .inr ⟨g,s,v,e,A,?_,x⟩;rw[z g D];exact m
 ·by_cases J:i<ds.length
  ·rw[E3 J]at o;obtain⟨R,l,f⟩:=V i T o;exact⟨R,Zn w.1 J l,f.same (λj c=>⟨c.1,by have:=c.2.1;omega,O j (by have:=c.2.1;omega) c.2.2.1,λB=>B.elim (N j (by have:=c.2.1;omega) (λe=>c.2.2.2 (.inl e))) (λe=>c.2.2.2 (.inr e))⟩) (λj c=>(G j (.inl c.2.1) (by have:=c.2.1;omega) (λe=>c.2.2.2 (.inl e)) c.2.2.1).trans (U j c.2.1))⟩
  have e:i=ds.length:=by
   have:=B9 o;rw[AC]at this;simp at this;omega
  subst e;rw[E2 (AB _),Nc]at o;injection o with o;subst o;have P:∀j,W.heap.size<=j->Aj j≠kv.ownBlock:=λj c e=>by have:=M j e.symm;omega
  have Q:∀j,W.heap.size<=j->Aj j≠u.ownBlock:=λj c e=>by have:=E j e.symm;omega
  exact⟨a,Zo w.1 X,aa.same (λj c=>⟨by have:=c.1;omega,by have:=c.2;omega,O j (by have:=c.2;omega) (Q j (by have:=c.1;omega)),λB=>B.elim (N j (by have:=c.2;omega) (P j (by have:=c.1;omega))) (λe=>by have:=y j e;have:=c.1;omega)⟩) (λj c=>G j (.inr (by have:=c.1;omega)) (by have:=c.2;omega) (P j (by have:=c.1;omega)) (Q j (by have:=c.1;omega)))⟩
 ·rcases r with h|h
  ·exact H g l (h.symm.trans f)
  have:=ab g l;rw[h]at f;injection f with f;omega
 ·rcases q with h|h
  ·exact p.exk g (h.symm.trans e) m
  rw[h]at e;injection e with e;have:=y g m;omega
 rcases r with h|h
 ·exact p.exu g (h.symm.trans e) m
 rw[h]at e;injection e with e;have:=y g m;omega
end
end Go.Proofs.YtoegnhgofkhbnaaGreatDoor
