import Derived.Test.YtmajcjammmjimaaGreatDoorCq32
set_option maxRecDepth 100000
set_option maxHeartbeats 8000000
set_option linter.all false
namespace Go.Proofs.YtmajcjammmjimaaGreatDoor
open Go.Proofs.Tryz
variable{fm:Int}{c d:Cfg}{bs l:List UInt8}{W:World}
section
open Go.RowKit Go.Lib
theorem qjn(s n:Nat):1<=(qaj s n).length:=by
 unfold qaj
 repeat' split
 all_goals simp
theorem qym(n:Nat):1<=(qbr n).length/\1<=(qbq n).length/\1<=(qbm n).length/\1<=(qa1 n).length:=by
 unfold qbr qbq qbm qa1;refine⟨?_,?_,?_,?_⟩
 all_goals
  repeat' split
  all_goals simp
theorem qyL(f:fm=1\/fm=2\/fm=3){k:Nat}(b:k<=17){d:DataW Unit}(h:Gd k d)(o:¬(fm=1/\qcM k d=true))(m:Nat)(l:(wrO fm k d).length+m<=65536):qpc fm (wrO fm k d++List.replicate m (UInt8.ofNat (qb3 fm)))=.ok (wrO fm k d):=by
 have j:(wrO fm k d++List.replicate m (UInt8.ofNat (qb3 fm))).length<=65536:=by simpa using l
 have g:qh4 (thO fm (wrO fm k d++List.replicate m (UInt8.ofNat (qb3 fm))) 16 (wrO fm k d++List.replicate m (UInt8.ofNat (qb3 fm))).length)=.ok (wrO fm k d).length:=by
  generalize hr:List.replicate m (UInt8.ofNat (qb3 fm))=r at *;generalize hb:wrO fm k d++r=bs at *;unfold qh4 thO;rcases f with rfl|rfl|rfl
  ·have i:qcM k d=false:=by cases e:qcM k d with|false=>rfl|true=>exact absurd ⟨rfl,e⟩ o
   have:=quO bs bs.length 16 (kdb _) k 17 0 d 0 r h i b (by omega) (λc a=>by
    rw[<-hr]at a;have a:=kcU a;have:=kdr a;subst this;decide) hb.symm
   rw[show(16:Int).toNat+1=17 from rfl,kag rfl,this,kaL];rfl
  ·have:=qp3 qzX (λn=>⟨qjn _ _,qjn _ _,qjn _ _,qjn _ _⟩) bs bs.length 16 (kdb _) (by omega) k 17 0 d 0 r h b (by omega) hb.symm;rw[show(16:Int).toNat+1=17 from rfl,kac (by decide),kag rfl,this,kaL];rfl
  have:=qp3 qzD qym bs bs.length 16 (kdb _) (by omega) k 17 0 d 0 r h b (by omega) hb.symm;rw[show(16:Int).toNat+1=17 from rfl,kac (by decide),kac (by decide),this,kaL];rfl
 unfold qpc;rw[kag ⟨by rcases f with rfl|rfl|rfl<;>rfl,j⟩,g];simp only[];rw[kba,List.take_left,kag];rw[ka3];intro c a;rw[kdr a];unfold qb3;split<;>rfl

theorem qxd:∀k:Nat,k=0\/k=1\/k=2\/k=3\/k=4\/k=5->qbC (1+(k:Int)) (qjN k)=true/\qbx (1+k) (qbe (1+k) (qjN k))=true/\qb1 (1+k) (qbe (1+k) (qjN k))=true:=by
 rintro k (rfl|rfl|rfl|rfl|rfl|rfl)<;>exact⟨by kernel_rfl,by kernel_rfl,by kernel_rfl⟩
theorem qzt{rules:List UInt8}(r:∀k:Nat,k=0\/k=1\/k=2\/k=3\/k=4\/k=5->qa2 (1+k) rules = -1)(h:qyo c rules d):qb4 d=0:=by
 obtain⟨s,t,⟨_,h⟩|⟨rfl,_⟩⟩:=h
 ·exact h
 have u:=qaV c.labels 6 (by omega);have v:=qaV c.dflt (1+qaI c.labels 6) (by omega);have w:=qaV c.clr (1+qaI c.labels 6) (by omega);have o:=qaV c.inn 3 (by omega);have q:=qaV c.out 3 (by omega);have x:=qaV c.depth 16 (by omega);have y:=qaV c.bytes 4096 (by omega);unfold opG opC;generalize qaI c.labels 6=k at *;generalize qaI c.dflt (1+k)=p2 at *;generalize qaI c.clr (1+k)=p3 at *;generalize qaI c.inn 3=p4 at *;generalize qaI c.out 3=p5 at *;generalize qaI c.depth 16=p6 at *;generalize qaI c.bytes 4096=p7 at *;have a:k=0\/k=1\/k=2\/k=3\/k=4\/k=5:=by omega
 obtain⟨i,j,l⟩:=qxd k a;have m:=r k a;have n:(1+(k:Int)).toNat=1+k:=by omega
 have b:qbM (1+k) (p2:Int)=true:=kax (by omega);have e:qbM (1+k) (p3:Int)=true:=kax (by omega);have g:qe3 (1+(p4:Int)) (1+(p5:Int)) (1+(p6:Int)) (1+(p7:Int))=true:=by
  unfold qe3;have f:∀p:Nat,p<3->qeD (1+(p:Int))=true:=λp z=>by
   rcases(by omega:p=0\/p=1\/p=2)with rfl|rfl|rfl<;>rfl
  rw[f p4 o,f p5 q,kax (by omega),kax (by omega),kax (by omega),kax (by omega)];rfl
 unfold qb4 qga;simp only[n,i,j,l,m,b,e,g];rfl
theorem qkK:∀{B:List Int},qfb fm bs B=some l->∃x∈B,l=bs++List.replicate (x.toNat-bs.length) (UInt8.ofNat (qb3 fm))/\(bs.length:Int)<=x
 |[],h=>by cases h
 |y::B,h=>by
  rw[qfb]at h;split at h
  ·next e =>
   injection h with h;exact⟨y,ka5 ..,h.symm,e⟩
  obtain⟨x,c,a,b⟩:=qkK h;exact⟨x,ka9 _ c,a,b⟩

theorem qxK(p:List (List UInt8×Bool)):qx8 [(1,[])] p=true:=by
 unfold qx8;show rcS (1,[]) p (λk=>k==0) p.length=true
 cases p.length with
 |zero=>rfl
 |succ k =>
  show(List.range (k+2)).any _=true;exact kbi.2 ⟨0,kav.2 (by omega),rfl⟩
theorem quk{f:DataW Unit->Rep->Option (DataW Unit)×Rep}:∀(ds:List (DataW Unit)) (a:List (DataW Unit)×Rep),(∀d∈ds,∀R,∃n,f d R=(some d,(R.1+n,R.2)))->∃n,ds.foldl (λa d=>(a.1++(f d a.2).1.toList,(f d a.2).2)) a=(a.1++ds,(a.2.1+n,a.2.2))
 |[],a,_=>⟨0,by simp⟩
 |d::ds,a,h=>by
  obtain⟨n,c⟩:=h d (by simp) a.2;obtain⟨m,b⟩:=quk ds (a.1++[d],(a.2.1+n,a.2.2)) (λx e=>h x (by simp[e]));exact⟨n+m,by rw[kbT,c];refine b.trans ?_;simp[kbm]⟩
theorem qu2{f:List UInt8->DataW Unit->Rep->Option (DataW Unit)×Rep}:∀(es:List (Lit×DataW Unit)) (a:List (Lit×DataW Unit)×Rep),(∀e∈es,∀R,∃n,f (qaN e.1) e.2 R=(some e.2,(R.1+n,R.2)))->∃n,es.foldl (λa e=>(a.1++((f (qaN e.1) e.2 a.2).1.map λd=>(e.1,d)).toList,(f (qaN e.1) e.2 a.2).2)) a=(a.1++es,(a.2.1+n,a.2.2))
 |[],a,_=>⟨0,by simp⟩
 |d::ds,a,h=>by
  obtain⟨n,c⟩:=h d (by simp) a.2;obtain⟨m,b⟩:=qu2 ds (a.1++[d],(a.2.1+n,a.2.2)) (λx g=>h x (by simp[g]));exact⟨n+m,by rw[kbT,c];refine b.trans ?_;simp[kbm]⟩
theorem qwv(c:Rv)(b:∀p,c.m (lbF c.dflt c.rs p).1.toNat c.clr=true):∀(k:Nat) (p:List (List UInt8×Bool)) (d:DataW Unit) (R:Rep),Gd k d->∃n,1<=n/\rwF c k p d R=(some d,(R.1+n,R.2))
 |0,_,_,_,h=>h.elim
 |k+1,p,d,R,h=>by
  have j:∃n,shF (rwF c k) p d (R.1+1,R.2)=(d,(R.1+1+n,R.2)):=by
   unfold shF;split
   ·obtain⟨n,a⟩:=quk (f:=rwF c k (([],true)::p)) _ ([],(R.1+1,R.2)) (λd g R=>(qwv c b k _ d R (h.2 d g)).imp λ_ h=>h.2);exact⟨n,by unfold rwL;rw[a];rfl⟩
   ·obtain⟨n,a⟩:=qu2 (f:=λl=>rwF c k ((l,false)::p)) _ ([],(R.1+1,R.2)) (λe i R=>(qwv c b k _ e.2 R (h.2.2 e i).2).imp λ_ h=>h.2);exact⟨n,by unfold rwE;rw[a];rfl⟩
   exact⟨0,rfl⟩
  obtain⟨n,a⟩:=j;exact⟨1+n,by omega,by rw[rwF,kag (b _),a,kbm]⟩
def qyV:List UInt8:=[42,42,32,48,32,100,114,111,112]
theorem q02:∀k:Nat,k=0\/k=1\/k=2\/k=3\/k=4\/k=5->qa2 (1+k) qyV = -1:=by
 rintro k (rfl|rfl|rfl|rfl|rfl|rfl)<;>kernel_rfl
theorem q09:(qcH qyV).map enS=[([(1,[])],0,1)]:=by kernel_rfl
theorem qwb:((List.range 6).all λk=>(List.range (1+k)).all λj=>qc1 (1+k) (qjN k) 0 j)=true:=by kernel_rfl
structure Clr(d:Cfg):Prop where
 chk:qb4 d=0
 rs:qlm d=[([(1,[])],0,1)]
 top:qc1 d.labels.toNat d.L 0 d.clr.toNat=true
def noP(c:Cfg):Cfg:={c with pol:=⟨qyV.toArray⟩}
theorem qvh(h:qyo c qyV d):Clr (noP d):=by
 have a:=qzt q02 h;have k:=qaV c.labels 6 (by omega);have e:=qaV c.clr (1+qaI c.labels 6) (by omega);have j:d.labels=1+(qaI c.labels 6:Int)/\d.L=qjN (qaI c.labels 6)/\d.clr=(qaI c.clr (1+qaI c.labels 6):Int):=by
  obtain⟨m,n,⟨rfl,_⟩|⟨rfl,_⟩⟩:=h<;>exact⟨rfl,rfl,rfl⟩
 obtain⟨l,g,i⟩:=j;have b:d.labels.toNat=1+qaI c.labels 6:=by omega
 refine⟨?_,q09,?_⟩
 ·have f:=q02 (qaI c.labels 6) (by omega);rw[<-b]at f;unfold qb4 at a ⊢;split at a
  ·cases a
  next h1 =>
  split at a
  ·cases a
  next h2 =>
  split at a
  ·cases a
  next e =>
  split at a
  ·cases a
  next h4 =>
  split at a
  ·cases a
  next h5 =>
  rw[kac (show¬qga (noP d)=false from h1),kac (show¬qbx (noP d).labels.toNat (qbe (noP d).labels.toNat (noP d).L)=false from h2),kac (show¬qb1 (noP d).labels.toNat (qbe (noP d).labels.toNat (noP d).L)=false from e),kac (show¬qe3 (noP d).inn (noP d).out (noP d).depth (noP d).bytes=false from h4),kac (show¬qaG (noP d).B=false from h5),kac (show¬0<=qa2 (noP d).labels.toNat (noP d).pol.data.toList from(by show¬0<=qa2 d.labels.toNat qyV;rw[f];decide))]
 show qc1 d.labels.toNat d.L 0 d.clr.toNat=true;rw[b,g,i];exact ka3.1 (ka3.1 qwb _ (kav.2 k)) _ (kav.2 (by omega))
theorem qvb(h:Clr d)(s:List UInt8){x:DataW Unit}(a:qdA d.inn s d.depth d.bytes=.ok x):∃n,1<=n/\clO d (s.take (d.bytes.toNat+1))=.ok ((n,0,0,0),poF d.out (kC d) x d.B):=by
 have ck:=qhN h.chk;have c:=ck.dep;have f:=ck.byt;unfold clO;rw[qiZ _ _ _ _ (by omega) (by omega),a];obtain⟨n,b,e⟩:=qwv (rvC d) (λp=>by
  show qc1 d.labels.toNat d.L (lbF d.dflt (qlm d) p).1.toNat d.clr.toNat=true;rw[h.rs,lbF,kag (qxK p)];exact h.top) (kC d) [] x (0,0,0,0) (qum (by omega) a)
 refine⟨n,b,?_⟩;show Except.ok ((rwF (rvC d) (kC d) [] x (0,0,0,0)).2,poF d.out (kC d) ((rwF (rvC d) (kC d) [] x (0,0,0,0)).1.getD .nil) d.B)=_;rw[e];simp
theorem qw8(h:Clr d)(s:List UInt8){e:Int×Int}(a:qdA d.inn s d.depth d.bytes=.error e):clO d (s.take (d.bytes.toNat+1))=.error e:=by
 have ck:=qhN h.chk;have b:=ck.dep;have c:=ck.byt;unfold clO;rw[qiZ _ _ _ _ (by omega) (by omega),a]

theorem q0d(h:qb4 c=0)(s:List UInt8){z:Cz}(a:clO c (s.take (c.bytes.toNat+1))=z):tdO c s=tdA (czS z) (czR z) (czE z) (czP z):=by
 unfold tdO;rw[kag h,a]
theorem qzL{w:World}(h:qia w c):qia w (noP c):=⟨h.edges,h.ints,h.en,h.bn,h.eb,h.bb⟩
theorem qvF{V:World}{b:Nat}{v:Value}(h:Own W b v l)(a:Below W.heap.size W V):Own V b v l:=qli h a.size (λg e=>a.block g (qpu h e))
theorem yRp{ev:Operand->Value}{o:Oper}(x:Nat){M:Nat}{R:Rep}{e p:Int}(a:W.heap[M]?=some (.cells (tdA l R e p) 34))(b:o.op=.load 32 (.tmp x))(c:ev (.tmp x)=.pointer (some ⟨M,1,none⟩)):(execOp ev o).run prog W=.ok (.value (.agg (qaK R))) W :=
 qxG _ _ b M 1 c _ _ (qyB _ _ _ _ a) underlying32 rfl (qbk _)
def qfx(n:Int):List Int->Int->Int
 |[],w=>w
 |x::B,_=>if n<=x then x else qfx n B x
theorem qkj:∀{B:List Int} (w:Int),qfb fm bs B=none->w<bs.length->qfx bs.length B w<bs.length
 |[],_,_,h=>h
 |x::B,w,h,_=>by
  rw[qfb]at h;split at h
  ·cases h
  next e=>rw[qfx,kac e];exact qkj x h (by omega)
theorem qlb:∀{B:List Int} (w:Int),qfb fm bs B=some l->qfx bs.length B w=l.length
 |[],_,h=>by cases h
 |x::B,w,h=>by
  rw[qfb]at h;split at h
  ·next e =>
   cases h;rw[qfx,kag e,kaa,kb5];omega
  next e=>rw[qfx,kac e];exact qlb x h
theorem qxP(ck:qnT c)(j:qhQ W.heap.size W){a:Option Addr}(d:Nat)(h:qau W a bs)(o:bs.length<=200000000):Calls prog 5 #[.int .i64 c.inn,.int .i64 c.out,.int .i64 c.depth,.int .i64 c.bytes,.slice a bs.length d] W (qme (kC c) W c.out (wrO c.out (kC c)) (qdA c.inn bs c.depth c.bytes)):=by
 have e:=ck.dep;have f:=ck.byt;have n:qe3 c.inn c.out c.depth c.bytes=true:=by
  unfold qe3;rw[kax e.1,kax e.2,kax f.1,kax f.2];rcases ck.inn with h|h|h<;>rcases ck.out with g|g|g<;>rw[h,g]<;>rfl
 refine qhD (kC c) W _ _ _ _ a _ d _ _ n (λl q h=>(qj8 _ _ _ _ (by omega) l q h).1) (λV b=>qfA V _ a bs d _ _ ck.inn (h.below b) (j.rd.below b) (by omega) (by omega) o) (λt y k V i b m _=>?_);rw[<-qiZ _ _ _ _ (by omega) (by omega)]at i;have p:=qhr _ _ _ _ (by omega) i (kC c);rw[kbc]at p;exact qu5 c.out (kC c) V t y k ck.out m (by omega) (j.below b).top.st
def CdW(out:Int)(B:List Int)(z:Cz)(base:Nat)(e:Ending)(W:World):Prop :=
 ∃a n cp en pl,e=.returned (.tuple #[.slice a n cp,.int .i64 en,.int .i64 pl])/\((¬en=0/\czS z=[]/\czE z=en/\czP z=pl) \/
 (en=0/\∃b,n=b.length/\Own W base (.slice a n cp) b/\((qfx b.length B b.length<b.length/\czE z=14/\czS z=[]) \/
  (czE z=0/\qfx b.length B b.length=(czS z).length/\b.length<=(czS z).length/\(czS z).length<=maxLen/\(czS z).take b.length=b/\(∃m,1<=m/\czR z=(m,0,0,0))/\((czS z).length<=65536->qpc out (czS z)=.ok b)))))
theorem qwL(h:Clr d){s:List UInt8}{e:Ending}{W':World}(b:qme (kC d) W d.out (wrO d.out (kC d)) (qdA d.inn s d.depth d.bytes) e W'):CdW d.out d.B (clO d (s.take (d.bytes.toNat+1))) W.heap.size e W':=by
 have ck:=qhN h.chk;have H:=ck.dep;have t:=qj8 d.inn s d.depth d.bytes (by omega);obtain⟨_,b⟩:=b
 cases f:qdA d.inn s d.depth d.bytes with
 |error x =>
  rw[qw8 h s f];rw[f]at b;exact⟨_,_,_,_,_,b,.inl ⟨(t _ _ f).1,rfl,rfl,rfl⟩⟩
 |ok x =>
  obtain⟨m,n,F⟩:=qvb h s f;rw[F];rw[f]at b;rcases b with⟨p,q,rfl⟩|⟨j,v,rfl,l⟩
  ·rw[qmX ⟨p,q⟩];exact⟨_,_,_,_,_,rfl,.inl ⟨by decide,rfl,rfl,rfl⟩⟩
  obtain⟨J,G,rfl,u⟩:=qcw l;refine⟨_,_,_,_,_,rfl,.inr ⟨rfl,_,rfl,l,?_⟩⟩;have z:=qum (by omega) f;have o:=λm h=>qyL ck.out (k:=kC d) (show d.depth.toNat+1<=17 by omega) z j m h;by_cases g:d.B.length=0
  ·rw[qj1 j (show qfX d.out _ d.B=_ from kag g)];have r:=ka7 g;refine .inr ⟨rfl,by rw[r];rfl,kaf _,u.len,kcd,⟨m,n,rfl⟩,λc=>?_⟩;have:=o 0 c;rw[List.replicate_zero,kbj]at this;exact this
  cases a:qfb d.out (wrO d.out (kC d) x) d.B with
  |none =>
   rw[qns j (show qfX d.out _ d.B=_ from(kac g).trans a)];refine .inl ⟨?_,rfl,rfl⟩;revert a g
   cases d.B with
   |nil=>exact λh _=>absurd rfl h
   |cons y B =>
    intro _ a;rw[qfb]at a;split at a
    ·cases a
    next e=>rw[qfx,kac e];exact qkj y a (by omega)
  |some w =>
   rw[qj1 j (show qfX d.out _ d.B=_ from(kac g).trans a)];have D:=qlb (wrO d.out (kC d) x).length a;obtain⟨y,E,e,I⟩:=qkK a;have C:w.length<=maxLen:=by
    obtain⟨i,A,rfl⟩:=kcX.1 E;have:=ck.b6 i A;rw[e,kaa,kb5];unfold maxLen;omega
   subst e;refine .inr ⟨rfl,D,by show _<=(_++_:List UInt8).length;rw[kaa];omega,C,List.take_left,⟨m,n,rfl⟩,λc=>?_⟩;have c:(wrO d.out (kC d) x++List.replicate (y.toNat-(wrO d.out (kC d) x).length) (UInt8.ofNat (qb3 d.out))).length<=65536:=c;rw[kaa,kb5]at c;exact o _ c
theorem qmg(c:Cfg)(w:World)(q:qia w c)(hk:q0w c)(ht:qhQ w.heap.size w)(s:List UInt8)(aq:c.pol.size<=281474976710656)(hs:s.length<=1048576):Calls prog 3 #[.agg c.arr,.string ⟨s.toArray⟩] w λe w'=>e=.returned (.bool true)/\Below w.heap.size w w':=by
 have E:=qab (qeV w c);have cO:=qwp c _ (q.below E.out.below) hk (ht.below E.out.below).top [42,42,32,48,32,100,114,111,112] (by decide) aq;have HG:=qab ht;have HS:=qab c.size;clear q hk ht aq;go_enter func3,ntmps3
 go_wp2_with(first
  |(refine kak rfl 25 _ rfl w.heap.size rfl _ _ _ _ E.out.box underlying25 rfl (qaD HS.out) ?_))
 go_at_call 4
 refine cO.mono ?_;clear cO;rintro e i ⟨d,rfl,hd,hB,hI⟩;have Q:=qab (qvh hI);have A:=qab (E.out.below.trans (hB.mono E.out.below.size));have HY:=qab (qeV i d);have b3:_=some (Value.string d.pol):=qaa HY.out.box 3;have f3:=kaK _ i.heap.size 3 _ _ HY.out.box;have HD:=qab (qzL hd);clear hd hB hI E
 go_upto_region 3 with(first
  |(refine kan rfl 25 _ _ rfl i.heap.size d.arr rfl rfl 25 _ (qac i _) (qaD d.size) rfl d.one ?_;rw[kaB]))
 have G:Hid (qgQ i (noP d) (i.alloc (.cells (d.arr.setIfInBounds 3 (.string ⟨#[42,42,32,48,32,100,114,111,112]⟩)) 25))):=qeV i (noP d);clear HY b3 f3;generalize i.alloc _=V1 at *;obtain⟨ax,V2,an,ad,L,x⟩:=qjs V1 s (by unfold maxLen;omega);have av:=qab ad;have ac:=qab (G.out.step ad);have cT:=qxP (qhN Q.out.chk) ((HG.out.below (A.out.trans (ac.out.below.mono A.out.size))).top) ax L (by omega);have b6:_=some (Value.int .i64 d.inn):=qaa G.out.box 6;have b7:_=some (Value.int .i64 d.out):=qaa G.out.box 7;have b8:_=some (Value.int .i64 d.depth):=qaa G.out.box 8;have b9:_=some (Value.int .i64 d.bytes):=qaa G.out.box 9;obtain⟨z,HQ⟩:∃z,Hid (clO (noP d) (s.take ((noP d).bytes.toNat+1))=z):=⟨_,show _=_ from rfl⟩
 have HP:Hid (∀V,Below i.heap.size i V->Calls prog 6 #[.agg (noP d).arr,.string ⟨s.toArray⟩,.int .i64 5] V λe w'=>e=.returned (.tuple #[.agg (tdA (czS z) (czR z) (czE z) (czP z)),.bool true])/\Below V.heap.size V w'):=λV hV=>by
  have h:=qoh (noP d) (λh=>⟨qwS (qhN h),qv4 (qhN h)⟩) V (HD.out.below hV) ((HG.out.below (A.out.trans (hV.mono A.out.size))).top) s (by unfold maxLen;omega) 5 (by omega) (by unfold maxLen;omega);rw[q0d Q.out.chk s HQ.out]at h;exact h
 have aj:=qab HD.out.ints;clear L ad x HD
 go_upto_region 7 with(first
  |(go_at_call 5;refine cT.mono ?_;clear cT;intro e w4 hT;have ah:=qab hT.1;have D:=qwL Q.out hT;rw[HQ.out]at D;obtain⟨a4,n4,c4,I,pl,rfl,al⟩:=D;have D:=qab al;clear hT al;have R:=qab (ac.out.step ah.out))
  |(refine kak rfl 25 _ rfl i.heap.size rfl _ _ _ _ R.out.box underlying25 rfl (qaD (noP d).size) ?_)
  |(go_at_call 6;refine(HP.out _ R.out.below).mono ?_;clear HP;rintro e w5 ⟨rfl,W⟩;have j:=qab (q0p R.out W (tdA (czS z) (czR z) (czE z) (czP z)));have ai:=qab (W.alloc W.size (.cells (tdA (czS z) (czR z) (czE z) (czP z)) 34));clear W)
  |(refine kan rfl 34 _ _ rfl w5.heap.size (tdA (czS z) (czR z) (czE z) (czP z)) rfl rfl 34 _ (qac w5 _) (qjS _ _ _ _) rfl (qrv _ _ _ _) ?_;rw[kaB];generalize w5.alloc (.cells (tdA (czS z) (czR z) (czE z) (czP z)) 34)=X at *;generalize w5.heap.size=M at *))
 have x0:_=some (Value.string ⟨(czS z).toArray⟩):=qaa j.out.told 0;have N:_=some (Value.int .i64 (czE z)):=qaa j.out.told 5;have x6:_=some (Value.int .i64 (czP z)):=qaa j.out.told 6;have P:=qab (A.out.trans (j.out.below.mono A.out.size));rcases D.out with⟨h0,ar,he,hp⟩|⟨rfl,b,rfl,hO,v⟩
 ·rw[ar]at x0;rw[he]at N;rw[hp]at x6;have f1:(I != 0)=true:=by simpa using h0
  have f2:(I==I)=true:=by simp
  have f3:(pl==pl)=true:=by simp
  clear D h0 ar he hp;go_wp2;go_ret;exact⟨rfl,P.out⟩
 have HO:=qab (qvF hO ai.out);have b7:_=some (Value.int .i64 d.out):=qaa j.out.cfg 7;have aw:_=some (Value.slice d.ba d.B.length d.bcap):=qaa j.out.cfg 10;have a6:d.B.length<=8:=(qhN Q.out.chk).b8;have HI:Hid (qc9 X d.ba d.B):=aj.out.below j.out.below;obtain⟨V,p⟩:∃V,Hid (qfx b.length d.B b.length=V):=⟨_,show _=_ from rfl⟩
 have v:(V<b.length/\czE z=14/\czS z=[])\/(czE z=0/\V=(czS z).length/\b.length<=(czS z).length/\(czS z).length<=maxLen/\(czS z).take b.length=b/\(∃m,1<=m/\czR z=(m,0,0,0))/\((czS z).length<=65536->qpc d.out (czS z)=.ok b)):=by rw[<-p.out];exact v
 have ab:=qab v;clear D;generalize d.ba=ba at *;generalize d.B=B at *;clear hO v aj R ai ah ac G av an
 go_wp2_with fail
 go_loopg[11,12] B.length (λg a5 y wr=>∃(k:Nat) (wv:Int),a5=.int .i64 wv/\y=.int .i64 k/\Hid (k+g=B.length)/\Hid (qfx b.length (B.drop k) wv=V)/\X=wr)
 case atStart=>exact⟨0,b.length,rfl,rfl,by show _=_;omega,p,rfl⟩
 case round =>
  clear p;obtain⟨k,wv,rfl,rfl,hg,p,rfl⟩:=hrel;have a3:(∃y g n off,gk=g+1/\(k:Int)<B.length/\k<B.length/\¬(b.length:Int)<=y/\qfx b.length (B.drop (k+1)) y=V/\ba=some ⟨n,off,none⟩/\X.cell? ⟨n,off+k,none⟩=some (.int .i64 y))\/(¬(k:Int)<B.length/\wv=V)\/(∃n off,(k:Int)<B.length/\k<B.length/\(b.length:Int)<=V/\ba=some ⟨n,off,none⟩/\X.cell? ⟨n,off+k,none⟩=some (.int .i64 V)):=by
   have o:=p.out;have hg:=hg.out;by_cases u:k<B.length
   ·obtain⟨n,off,am,_,ag⟩:=HI.out.at_ k u;have q:=ag k u;rw[ka6 u,qfx]at o;by_cases t:(b.length:Int)<=B[k]
    ·rw[kag t]at o;rw[o]at q t;exact .inr (.inr ⟨n,off,by omega,u,t,am,q⟩)
    rw[kac t]at o;exact .inl ⟨_,gk-1,n,off,by omega,by omega,u,t,o,am,q⟩
   rw[kca (by omega)]at o;exact .inr (.inl ⟨by omega,o⟩)
  clear p HI;rcases a3 with⟨y,g,n,off,rfl,ap,u,t,o,rfl,q⟩|⟨ap,rfl⟩|⟨n,off,ap,u,t,rfl,q⟩
  ·have p:=qab o;clear o;go_wp2;go_roundg g
   case measure=>omega
   case rel=>exact⟨k+1,y,rfl,by go_num,by show _=_;have:=hg.out;omega,p,rfl⟩
  all_goals
   go_upto_region 15 with fail
  all_goals
   rcases ab.out with⟨T,U,J⟩|⟨T,U,J,ao,h4,⟨m,h5,h6⟩,h7⟩
  all_goals try(exfalso;omega)
  ·rw[U]at N;rw[J]at x0;clear ab U J;go_wp2;go_ret;exact⟨rfl,P.out⟩
  all_goals
   rw[T]at N;rw[h6,T]at j;subst U;generalize czS z=l at *;have au:=λw=>quK l b.length J w;simp only[h4]at au;have HU:=qab h7;have f1:¬(l.length:Int)<b.length:=by omega
   have f2:((l.length:Int) != l.length)=false:=by simp
   have f3:(b != b)=false:=by simp
   have f4:¬(m:Int)<1:=by omega
   have bb:=qua l;have x1:_=some (Value.int .i64 m):=qaa j.out.told 1;clear ab T J h4 h6 h7 h5
   go_upto_region 17 with fail
  all_goals
   have r:Hid (quB i (noP d) M (tdA l (m,0,0,0) 0 (czP z)) {X with drawn:=X.drawn+1}):=j.out.next (kam _ _).drew
   have ak:Hid (Own {X with drawn:=X.drawn+1} V2.heap.size (.slice a4 b.length c4) b):=qvF HO.out (kam _ _).drew;have C:Hid (Below w.heap.size w {X with drawn:=X.drawn+1}):=P.out.drew;refine rgn (S:=λZ=>Z=({X with drawn:=X.drawn+1}:World)) rfl (by kernel_rfl) ?_;clear x0 x1 N x6 b7 aw j HO P hg;generalize({X with drawn:=X.drawn+1}:World)=Y at *;intro a;have x0:_=some (Value.string ⟨l.toArray⟩):=qaa r.out.told 0;have x1:_=some (Value.int .i64 m):=qaa r.out.told 1;have N:_=some (Value.int .i64 0):=qaa r.out.told 5;have b7:_=some (Value.int .i64 d.out):=qaa r.out.cfg 7;have ag:=qf3 ak.out;have az:(qaK (m,0,0,0))[0]?=some (.int .i64 m):=rfl;have a0:(qaK (m,0,0,0))[1]?=some (.int .i64 0):=rfl;have a1:(qaK (m,0,0,0))[2]?=some (.int .i64 0):=rfl;have a2:(qaK (m,0,0,0))[3]?=some (.int .i64 0):=rfl;have f5:((m:Int) != m)=false:=by simp
   refine tkp 0 88 (.pointer (some ⟨M,5,none⟩)) a ?_;refine tkq 1 89 (.int .i64 0) rfl (λZ f=>by cases f;go_simp) a ?_;refine tkp 2 90 (.bool false) a ?_;refine tkp 3 91 (.bool false) a ?_;refine tkp 4 92 (.pointer (some ⟨M,0,none⟩)) a ?_;refine tkq 5 93 (.string ⟨l.toArray⟩) rfl (λZ f=>by cases f;go_simp) a ?_;refine tkq 6 94 (.int .i64 (l.length:Int)) rfl (λZ f=>by cases f;go_simp) a ?_;refine tkp 7 95 (.int .i64 (l.length:Int)) a ?_;refine tkq 8 96 (.bool false) rfl (λZ f=>by cases f;go_simp) a ?_;refine tkp 9 97 (.bool false) a ?_;refine tkp 10 98 (.bool false) a ?_;refine tkp 11 99 (.pointer (some ⟨M,0,none⟩)) a ?_;refine tkq 12 100 (.string ⟨l.toArray⟩) rfl (λZ f=>by cases f;go_simp) a ?_;refine tkp 13 101 (.slice a4 b.length c4) a ?_;refine tkq 14 102 (.int .i64 (b.length:Int)) rfl (λZ f=>by cases f;go_simp) a ?_;refine tkq 15 103 (.string ⟨b.toArray⟩) rfl (λZ f=>by cases f;go_simp) a ?_;refine tkp 16 104 (.slice a4 b.length c4) a ?_;refine tkq 17 105 (.string ⟨b.toArray⟩) rfl (λZ f=>by cases f;go_simp) a ?_;refine tkq 18 106 (.bool false) rfl (λZ f=>by cases f;go_simp) a ?_;refine tkp 19 107 (.bool false) a ?_;refine tkp 20 108 (.bool false) a ?_;refine tkp 21 109 (.pointer (some ⟨M,1,none⟩)) a ?_;refine tkp 22 110 (.pointer (some ⟨M,1,none⟩)) a ?_;refine tkq 23 111 (.int .i64 (m:Int)) rfl (λZ f=>by cases f;go_simp) a ?_;refine tkq 24 112 (.bool false) rfl (λZ f=>by cases f;go_simp) a ?_;refine tkp 25 113 (.bool false) a ?_;refine tkp 26 114 (.bool false) a ?_;refine tkp 27 115 (.pointer (some ⟨M,1,none⟩)) a ?_;refine tkq 28 116 (.agg (qaK (m,0,0,0))) rfl (λZ f=>by cases f;exact yRp 115 r.out.told rfl (by kernel_rfl)) a ?_;refine tkp 29 117 (.pointer (some ⟨M,1,none⟩)) a ?_;refine tkp 30 118 (.pointer (some ⟨M,1,none⟩)) a ?_;refine tkq 31 119 (.int .i64 (m:Int)) rfl (λZ f=>by cases f;go_simp) a ?_;refine tkp 32 120 (.agg (qaK (m,0,0,0))) a ?_;refine tkq 33 121 (.bool false) rfl (λZ f=>by cases f;go_simp) a ?_;refine tkp 34 122 (.bool false) a ?_;refine wdn ?_;go_simp;obtain⟨ay,V3,an,ae,L,x⟩:=qjs Y l ao;have H:=qqZ V3 d.out _ l ay L x ((HG.out.below (C.out.trans (ae.mono C.out.size))).rd) (λI pl h=>(qsL d.out l 16 _ (by decide) I pl h).1);have O:=qab ae;clear ag x1 au az a0 a1 a2 f5 f4 ao a L x ae
  all_goals
   by_cases aa:l.length<=65536
   ·rw[HU.out aa]at H;have f6:¬(65536:Int)<(l.length:Int):=by omega
    have f7:(b==b)=true:=by simp
    clear HU aa
    go_wp2_with(first
     |(go_at_call 7;refine H.mono ?_;clear H;rintro e w8 ⟨K,bc,rfl,af⟩;have F:=qab (O.out.trans (K.mono O.out.size));have a9:=qf3 af;have a7:=qf3 (qvF ak.out F.out);obtain⟨a8,n8,c8,rfl⟩:=af.2.2;have y0:_=some (Value.string ⟨l.toArray⟩):=qaa (r.out.next F.out).told 0;clear af K))
    go_ret;exact⟨rfl,C.out.trans (F.out.mono C.out.size)⟩
   rw[show qpc d.out l=.error 7 from kac λh=>aa h.2]at H;have f6:(65536:Int)<(l.length:Int):=by omega
   clear HU aa
   go_wp2_with(first
    |(go_at_call 7;refine H.mono ?_;clear H;rintro e w8 ⟨K,rfl⟩;have F:=qab (O.out.trans (K.mono O.out.size));have y0:_=some (Value.string ⟨l.toArray⟩):=qaa (r.out.next F.out).told 0;clear K))
   go_ret;exact⟨rfl,C.out.trans (F.out.mono C.out.size)⟩

end
section
open Go.ChangeShapes Go.WideShapes Go.ChangeAt Go.RowKit Go.Lib Go.Deep
theorem qsD{H:Type}{t1 t2:TypeId}{d0 d1:DataW H}{P:Program}(h:(DataW.weightsEach P ([t1,t2]++[]) ([d0,d1]++[])).all (·<=reachBytes)=true):(d0.weights P t1).all (·<=reachBytes)=true/\(d1.weights P t2).all (·<=reachBytes)=true:=by
 simp only[kbj,DataW.weightsEach,kcv,ka2]at h;exact⟨h.1,h.2⟩
theorem qfY(H:Type)(enc:TypeId×Value->H)(W:World)(args:Array Value)(b g:List (DataW H))(A:List MemPlace)(z:Nat)(i:∀(j:Nat) t v,f3.params[j]?=some t->args[j]?=some v->Value.okWide prog W .any z t v)(r:DataW.Whole enc prog f3.params.toList Rows.clearedSpec.vars false W args.toList b g A)(N:Rows.uptoSmall H (b++g)=true)(y:(DataW.weightsEach prog (f3.params.toList++[]) (b++g)).all (·<=reachBytes)=true)(G:laidMetH prog Rows.clearedUptoRow.laid W)(J:W.ShapedOpen prog):Calls prog 3 args W λe l=>∃v,e=.returned v/\Rows.clearedSpec.post enc prog f3 false true false false W args v l:=by
 have u:=r;obtain⟨p,q,E,K,rfl,Y,Z⟩:=r;have n:DataW.TrodAll enc prog W 0 (λ_=>true) true f3.params.toList args.toList b p:=E;rw[Tryz.params3]at n y i;obtain⟨U,V,f,X,d,p1,rfl,rfl,rfl,C,D⟩:=trodAll_two n;obtain⟨rfl,rfl⟩:=trodVars_none K;obtain⟨B,rfl,_⟩:=okWide_struct underlying25 (i 0 25 U rfl rfl);have S:=(qsD y).1;obtain⟨s,rfl,rfl,rfl,Q⟩:=Go.ChangeMaps.open_string underlying9 (i 1 9 V rfl rfl) D;obtain⟨T,m⟩:=C;obtain⟨c,M,F,a,I⟩:=qvp (x:=(f,d)) m S;have L:B=c.arr:=kdj M;subst L;have w:=qmg c W F ⟨a _ (by simp),a _ (by simp),a _ (by simp),a _ (by simp),a _ (by simp),a _ (by simp),a _ (by simp)⟩ (qw1 G J) s.data.toList I (by
  have O:Rows.uptoBulkAll [f,.lit (.string s.data.toList)]<=1048576:=kaq N;rw[Rows.uptoBulkAll,Rows.uptoBulkAll,Rows.uptoBulk]at O;omega)
 have R:∀s:ByteArray,(⟨s.data.toList.toArray⟩:ByteArray)=s:=λs=>by
  apply kdQ;simp
 rw[R]at w;refine w.mono ?_;rintro e l ⟨rfl,o⟩;have P:∀x∈d++[]++[],x.block<W.heap.size:=λx k=>u.lt x k;refine⟨_,rfl,[f,.lit (.string s.data.toList)],[],d++[]++[],[],d++[],[],u,trodAll_mk1 (shut_bool underlying4 true),?_,rfl,o.frame _,λh=>by cases h⟩;exact trodAll_mk2 (Below.trod Tryz.laidOut (by kernel_rfl) (kaq (by kernel_rfl)) ⟨T,m⟩ o (λx k=>P x (by simp[k]))) (Go.ChangeMaps.shut_string underlying9 Q)
def qcY:Array Value:=#[.agg q0G.arr,.string ByteArray.empty]
theorem ql7(a:Os):laidMet prog Rows.clearedUptoRow.laid ((qxr (World.holding prog a ⟨#[],#[],[]⟩)).forCall (λ_ _=>0) ⟨#[],qcY,[]⟩).memory :=
 laidMet_of_run' 8 (by kernel_rfl) (by kernel_rfl)
theorem qjr(a:Os){H:Type}(enc:TypeId×Value->H):∃b,DataW.whole enc prog ((qxr (World.holding prog a ⟨#[],#[],[]⟩)).forCall (λ_ _=>0) ⟨#[],qcY,[]⟩).memory f3.params.toList Rows.clearedSpec.vars false qcY.toList 8=some ([.agg [.lit (.int .i64 0),.nil,.lit (.int .i64 0),.lit (.string []),.lit (.int .i64 0),.lit (.int .i64 0),.lit (.int .i64 0),.lit (.int .i64 0),.lit (.int .i64 0),.lit (.int .i64 0),.nil],.lit (.string [])],[],b) :=
 ⟨[],by kernel_rfl⟩

end
section
open Go.ChangeShapes Go.WideShapes Go.ChangeAt Go.RowKit Go.Lib
theorem qhE(a:Os)(o:a.Started)(H:Type)(enc:TypeId×Value->H)(F:Stop.Interp):ReturnsInHanded {} Tryz.checked a 3 .any ((Rows.OpenSpec.upto Rows.clearedSpec).preRow enc prog f3 Rows.clearedUptoRow.domain false Rows.clearedUptoRow.laid) (((Rows.OpenSpec.upto Rows.clearedSpec).at F).post enc prog f3 false true false false):=by
 obtain⟨p,n⟩:=qjr a enc;refine returnsInHanded_of_row (C:=Tryz.checked) (s:=Rows.OpenSpec.upto Rows.clearedSpec) Tryz.own o (by kernel_rfl) func3
  (witness_row_at (enc:=enc) (C:=Tryz.checked) false (qxr (World.holding prog a ⟨#[],#[],[]⟩)) qcY rfl (by kernel_rfl) (by kernel_rfl) (by kernel_rfl)
   (OpenSpec.preRow_of_cond 8 n (by kernel_rfl) (λk b=>by obtain rfl:=kaE b;kernel_rfl) (by kernel_rfl) (ql7 a))) ?_
 intro W d c f g e l j _ b m h i _;exact qfY H enc W c f g e d l j (b _ rfl) m h i
theorem qoq:(Rows.clearedUptoRow.inPlace==Tryz.pinned.checked.prog.inPlace 3)=true:=by kernel_rfl
theorem qor:(Rows.clearedUptoRow.unfollowed==Tryz.pinned.checked.prog.unfollowed 3)=true:=by kernel_rfl
theorem qoC:(Rows.clearedUptoRow.recurses==Tryz.pinned.checked.prog.recurses 3)=true:=by kernel_rfl
theorem qoQ:(Rows.clearedUptoRow.named==Tryz.pinned.checked.prog.varsNamed 3)=true:=by kernel_rfl
theorem qjG:joinedFacts Tryz.pinned.checked.prog 3 f3 (Rows.OpenSpec.upto Rows.clearedSpec).bare Rows.clearedUptoRow=true:=by
 unfold joinedFacts;rw[qoq,qor,qoC,qoQ];kernel_rfl
theorem qkv:Rows.ClearedUptoSaid :=
 OpenClaim.holds_of_cond 3 f3 rfl rfl rfl rfl rfl rfl rfl ⟨rfl,rfl,rfl,rfl,rfl⟩ rfl rfl rfl rfl rfl (by kernel_rfl) func3 qjG
  (kaq (by kernel_rfl)) (by unfold Func.isWrapper;first|(rw[kag (by decide +kernel)];kernel_rfl)|(rw[kac (by decide +kernel)];exact⟨rfl,rfl⟩))
  (λb c H a _ F=>by rw[OpenClaim.pre_eq_preRow];exact qhE b c H a F)
theorem qi8(f:FuncId)(a:Func)(c:Tryz.pinned.checked.prog.funcNamed Rows.clearedUptoRow.func=some f)(d:Tryz.pinned.checked.prog.funcs[f]?=some a):true=Tryz.pinned.checked.prog.looks []/\∀(j:Nat) t,a.params[j]?=some t->Tryz.pinned.checked.prog.wantsStandIn t=false:=by
 obtain rfl:f=3:=kaE ((show prog.funcNamed Rows.clearedUptoRow.func=some 3 by kernel_rfl).symm.trans c) |>.symm;obtain rfl:a=f3:=(kaE (func3.symm.trans d)).symm;refine⟨by kernel_rfl,λj t b=>?_⟩;rw[Tryz.params3]at b;have e:t∈#[(25:TypeId),9]:=Array.mem_of_getElem? b;rcases(by simpa using e:t=25\/t=9)with rfl|rfl
 ·exact(show prog.wantsStandIn 25=false by kernel_rfl)
 exact(show prog.wantsStandIn 9=false by kernel_rfl)
theorem cleared_card:Rows.ClearedUptoCardSaid :=
 Claim7.holds_tied_plain_at .later [] _ _ _ _ qkv (λ_ h=>by cases h) (by kernel_rfl) (λ_ h=>by cases h) clearedUpto_row_tie rfl ⟨rfl,rfl⟩ (by kernel_rfl) rfl qi8 (by kernel_rfl)

#print axioms cleared_card
end
end Go.Proofs.YtmajcjammmjimaaGreatDoor
