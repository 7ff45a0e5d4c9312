import Derived.RangeFuncRecord
import Derived.Test.YtnlnjkggkbbdhaaGreatDoorTq00
set_option maxRecDepth 100000
set_option maxHeartbeats 8000000
set_option linter.all false
namespace Go.Proofs.YtnlnjkggkbbdhaaGreatDoor
open Go.Proofs.Tryz
open Go.Value renaming int->I,slice->G
open Option renaming some->U,none->Y
open Go.IntKind renaming i64->K
open Go renaming World->O
open Go.Obj renaming cells->E
open Go.Proofs.Tryz renaming prog->X
open Go.Value renaming int->A6,pointer->A8,string->A9,tuple->Aa,agg->Ab,bool->Ac,iface->Ad
open Go.Ending renaming returned->Af
open Go.IntKind renaming i64->Ag,u8->Ah
open Go renaming Value->Al,Calls->Am
variable{N b:Nat}{W W' W0:O}{c:UInt8}{bs:A1}
section
open Go.RowKit
structure BO where
 ia:A4
 bs:A1
 cap:Nat
 depth:Int
 lim:Int
 pos:Nat
 within:Nat
def BO.arr(s:BO):A3:=#[.slice s.ia s.bs.length s.cap,A6 Ag s.depth,A6 Ag s.lim,A6 Ag s.pos,A6 Ag s.within]
structure BD(W:World)(b:Nat)(s:BO):Prop where
 row:W.heap[b]?=some (.cells s.arr 145)
 inp:∀i (h:i<s.bs.length),∃g off,s.ia=some ⟨g,off,none⟩/\g≠b/\W.cell? ⟨g,off+i,none⟩=some (.int .u8 (s.bs[i]'h).toNat)
 len:s.bs.length<=maxLen
 le:s.pos<=s.bs.length
structure BF(b:Nat)(W W':World):Prop where
 os:W'.os=W.os
 tape:W'.tape=W.tape
 output:W'.output=W.output
 size:W.heap.size<=W'.heap.size
 block:∀k,k<W.heap.size->k≠b->W'.heap[k]?=W.heap[k]?
def BF.refl(b:Nat)(W:O):BF b W W:=⟨rfl,rfl,rfl,BM _,λ_ _ _=>rfl⟩
def BF.trans{A B C:O}(h:BF b A B)(k:BF b B C):BF b A C :=
 ⟨k.os.trans h.os,k.tape.trans h.tape,k.output.trans h.output,C7 h.size k.size,λi c a=>(k.block i B1 a).trans (h.block i c a)⟩
def BF.of_below(h:A0 W W'):BF b W W':=⟨h.os,h.tape,h.output,h.size,λk a _=>h.block k a⟩
def BD.below{s:BO}(h:BD W b s)(hb:A0 W W'):BD W' b s :=
 ⟨(hb.block _ (BC h.row)).trans h.row,λi e=>by
  obtain⟨g,off,c,d,a⟩:=h.inp i e;exact⟨g,off,c,d,(hb.cell (p:=⟨g,off+i,Y⟩) (G8 a)).trans a⟩,h.len,h.le⟩
def Ir(e p:Int):Al:=Ad 102 (Ab #[A6 Ag e,A6 Ag p])
def C0(e p:Int)(en:Ending):Prop:=en=.panicked [{v:=Ir e p,recovered:=false}]
def F9(W:O)(n:Nat):A0 W (W.drewN n):=⟨rfl,rfl,rfl,BM _,λ_ _=>rfl⟩
def Qz(W:O)(b:Nat)(s:BO)(h:BD W b s)(c:s.pos=s.bs.length):Am X 225 #[A8 (U ⟨b,0,Y⟩)] W λe a=>e=Af (Ac false)/\∃n,a=W.drewN n:=by
 have f:W.cell? ⟨b,0,Y⟩=U (G s.ia s.bs.length s.cap):=BB h.row 0;have g:W.cell? ⟨b,3,Y⟩=U (I K s.pos):=BB h.row 3;have d:(s.pos:Int)=s.bs.length:=J
 go_enter func225,ntmps225;go_wp2
 go_region
 go_wp2;go_ret;exact⟨Z,1,Z⟩
def QA(W:O)(b:Nat)(s:BO)(h:BD W b s)(d:s.pos<s.bs.length)(c:(s.pos:Int)=s.lim):Am X 225 #[A8 (U ⟨b,0,Y⟩)] W λe a=>C0 8 s.pos e/\∃n,a=W.drewN n:=by
 have g:W.cell? ⟨b,0,Y⟩=U (G s.ia s.bs.length s.cap):=BB h.row 0;have i:W.cell? ⟨b,2,Y⟩=U (I K s.lim):=BB h.row 2;have j:W.cell? ⟨b,3,Y⟩=U (I K s.pos):=BB h.row 3;have f:¬(s.pos:Int)=s.bs.length:=J
 go_enter func225,ntmps225;go_wp2
 go_region
 go_wp2
 go_region
 go_wp2;exact⟨Z,by rw[c];rfl,2,rfl⟩
def QB(W:O)(b:Nat)(s:BO)(h:BD W b s)(c:s.pos<s.bs.length)(f:¬(s.pos:Int)=s.lim):Am X 225 #[A8 (U ⟨b,0,Y⟩)] W λe a=>e=Af (Ac true)/\∃n,a=W.drewN n:=by
 have g:W.cell? ⟨b,0,Y⟩=U (G s.ia s.bs.length s.cap):=BB h.row 0;have i:W.cell? ⟨b,2,Y⟩=U (I K s.lim):=BB h.row 2;have j:W.cell? ⟨b,3,Y⟩=U (I K s.pos):=BB h.row 3;have d:¬(s.pos:Int)=s.bs.length:=J
 go_enter func225,ntmps225;go_wp2
 go_region
 go_wp2
 go_region
 go_wp2;go_ret;exact⟨Z,2,Z⟩
def Ny(s:BO):Prop:=s.pos=s.bs.length
def Nz(s:BO):Prop:=s.pos<s.bs.length/\(s.pos:Int)=s.lim
def EW(s:BO)(c:UInt8):Prop:=s.bs[s.pos]?=some c/\¬(s.pos:Int)=s.lim
def Is{s:BO}(h:BD W b s):Ny s\/Nz s\/∃c,EW s c:=by
 have:=h.le;by_cases d:s.pos=s.bs.length
 ·exact .inl d
 by_cases a:(s.pos:Int)=s.lim
 ·exact .inr (.inl ⟨J,a⟩)
 exact .inr (.inr ⟨s.bs[s.pos]'Av,by rw[C6 J],a⟩)
def EW.lt{s:BO}(h:EW s c):s.pos<s.bs.length:=Cf h.1
def EW.cell{s:BO}(h:BD W b s)(d:EW s c):∃g off,s.ia=U ⟨g,off,Y⟩/\g≠b/\W.cell? ⟨g,off+s.pos,Y⟩=U (I Ah c.toNat):=by
 obtain⟨g,off,e,f,a⟩:=h.inp s.pos d.lt;have:=(Ja.1 d.1).2;rw[this]at a;exact⟨g,off,e,f,a⟩
def BO.next(s:BO):BO:={s with pos:=s.pos+1}
def fQ{s:BO}(h:BD W b s)(m:s.pos<s.bs.length)(n:Nat):BD ((W.drewN n).setCell ⟨b,3,Y⟩ (I K ((s.pos:Int)+1))) b s.next/\BF b W ((W.drewN n).setCell ⟨b,3,Y⟩ (I K ((s.pos:Int)+1))):=by
 have j:(W.drewN n).heap[b]?=U (E s.arr 145):=h.row;have o:=BC h.row;refine⟨⟨?_,λi e=>?_,h.len,?_⟩,⟨Z,Z,Z,by simp[World.setCell,World.drewN,A0],λk l f=>?_⟩⟩
 ·rw[ET _ _ _ _ _ _ j];rfl
 ·obtain⟨g,off,c,a,d⟩:=h.inp i e;refine⟨g,off,c,a,?_⟩;have:((W.drewN n).setCell ⟨b,3,Y⟩ (I K ((s.pos:Int)+1))).heap[g]?=W.heap[g]?:=CP (W.drewN n) _ _ _ AO;exact(Im (w:=W) this).trans d
 ·show s.pos+1<=s.bs.length;omega
 exact CP (W.drewN n) _ _ _ keP
def IQ(W:O)(b:Nat)(s:BO)(h:BD W b s)(d:Ny s):Am X 226 #[A8 (U ⟨b,0,Y⟩)] W λe a=>C0 9 s.pos e/\A0 W a:=by
 have c:=Qz W b s h d;have f:W.cell? ⟨b,3,Y⟩=U (I K s.pos):=BB h.row 3;go_enter func226,ntmps226
 go_wp2_with(first|(go_at_call 225;refine c.mono ?_;rintro e g ⟨rfl,n,rfl⟩))
 exact⟨Z,Z,F9 _ _⟩
def IR(W:O)(b:Nat)(s:BO)(h:BD W b s)(a:Nz s):Am X 226 #[A8 (U ⟨b,0,Y⟩)] W λe c=>C0 8 s.pos e/\A0 W c:=by
 have d:=QA W b s h a.1 a.2;go_enter func226,ntmps226
 go_wp2_with(first|(go_at_call 225;refine d.mono ?_;rintro e f ⟨rfl,n,rfl⟩))
 exact⟨Z,Z,F9 _ _⟩
def Ep(W:O)(b:Nat)(s:BO)(c:UInt8)(h:BD W b s)(a:EW s c):Am X 226 #[A8 (U ⟨b,0,Y⟩)] W λe f=>e=Af (I Ah c.toNat)/\BD f b s.next/\BF b W f:=by
 have l:=QB W b s h a.lt a.2;have j:=T (fQ h a.lt);have y:=a.lt;have r:=h.len;unfold maxLen at r;obtain⟨g,off,m,o,p⟩:=a.cell h;have z:W.cell? ⟨b,3,Y⟩=U (I K s.pos):=BB h.row 3;have x:=Dx W b 3 _ _ h.row;go_enter func226,ntmps226
 go_wp2_with(first|(go_at_call 225;refine l.mono ?_;rintro e A ⟨rfl,n,rfl⟩))
 obtain⟨d,q⟩:=j.out n;have k:=T d;have i:=T q;have t:((W.drewN n).setCell ⟨b,3,Y⟩ (I K ((s.pos:Int)+1))).cell? ⟨b,0,Y⟩=U (G (U ⟨g,off,Y⟩) s.bs.length s.cap):=by rw[<-m];exact BB d.row 0
 have u:((W.drewN n).setCell ⟨b,3,Y⟩ (I K ((s.pos:Int)+1))).cell? ⟨b,3,Y⟩=U (I K ((s.pos:Int)+1)):=BB d.row 3;have v:((W.drewN n).setCell ⟨b,3,Y⟩ (I K ((s.pos:Int)+1))).cell? ⟨g,off+s.pos,Y⟩=U (I Ah c.toNat):=by
  have:((W.drewN n).setCell ⟨b,3,Y⟩ (I K ((s.pos:Int)+1))).heap[g]?=W.heap[g]?:=CP (W.drewN n) _ _ _ keG;exact(Im (w:=W) this).trans p
 generalize(W.drewN n).setCell ⟨b,3,Y⟩ (I K ((s.pos:Int)+1))=V at *
 go_region
 go_wp2;go_ret;exact⟨Z,k.below (C5 _ _).drew,i.trans (BF.of_below (C5 _ _).drew)⟩
def BD.drewN{s:BO}(h:BD W b s)(n:Nat):BD (W.drewN n) b s:=h.below (F9 W n)
def fR(W:O)(b:Nat)(s:BO)(x:Int)(h:BD W b s)(d:Ny s):Am X 236 #[A8 (U ⟨b,0,Y⟩),I Ah x] W λe a=>e=Af (Ac false)/\∃n,a=W.drewN n:=by
 have c:∀n,Am X 225 #[A8 (U ⟨b,0,Y⟩)] (W.drewN n) λe a=>e=Af (Ac false)/\∃m,a=(W.drewN n).drewN m:=λn=>Qz _ b s (h.drewN n) d;go_enter func236,ntmps236;go_wp2
 go_quiet (first|(go_at_call 225;exact(c _).quiet_of))
 go_wp2;go_ret;exact⟨Z,nq,Z⟩
def fS(W:O)(b:Nat)(s:BO)(c:UInt8)(x:Int)(h:BD W b s)(a:EW s c):Am X 236 #[A8 (U ⟨b,0,Y⟩),I Ah x] W λe d=>e=Af (Ac ((c.toNat:Int)==x))/\∃n,d=W.drewN n:=by
 have f:∀n,Am X 225 #[A8 (U ⟨b,0,Y⟩)] (W.drewN n) λe d=>e=Af (Ac true)/\∃m,d=(W.drewN n).drewN m:=λn=>QB _ b s (h.drewN n) a.lt a.2;obtain⟨g,off,i,l,o⟩:=a.cell h;have j:W.cell? ⟨b,0,Y⟩=U (G (U ⟨g,off,Y⟩) s.bs.length s.cap):=by rw[<-i];exact BB h.row 0
 have k:W.cell? ⟨b,3,Y⟩=U (I K s.pos):=BB h.row 3;have p:=a.lt;have q:(s.pos:Int)<s.bs.length:=J
 go_enter func236,ntmps236;go_wp2
 go_quiet (first|(go_at_call 225;exact(f _).quiet_of))
 go_wp2;go_ret;exact⟨Z,nq,Z⟩
def Th(W:O)(b:Nat)(s:BO)(x:Int)(h:BD W b s)(c:Nz s):Am X 236 #[A8 (U ⟨b,0,Y⟩),I Ah x] W λe a=>C0 8 s.pos e/\A0 W a:=by
 have d:Am X 225 #[A8 (U ⟨b,0,Y⟩)] W.drew λe a=>C0 8 s.pos e/\∃m,a=W.drew.drewN m:=QA _ b s (h.drewN 1) c.1 c.2;go_enter func236,ntmps236;go_wp2;refine Ec (S:=λ_=>True) M ?_;refine D3 (i:=0) (v:=A8 (U ⟨b,0,Y⟩)) Z M M M (λ_ _ _ h=>h) (.inl ⟨Z,λW j=>rfl⟩) trivial ?_;refine C9 1 (λf g=>?_);go_simp;refine d.mono ?_;rintro e k ⟨rfl,n,rfl⟩;exact⟨Z,Z,(C5 _ _).drew.trans (F9 W.drew n)⟩
def LM(c:UInt8)(w:O):Am X 234 #[I Ah c.toNat] w λe a=>e=Af (Ac (decide (48<=(c.toNat:Int)/\(c.toNat:Int)<=57)))/\a=w:=by
 by_cases b:(48:Int)<=c.toNat
 ·by_cases d:(c.toNat:Int)<=57
  ·go_enter func234,ntmps234;go_wp2;go_ret;exact⟨by rw[CH J];rfl,rfl⟩
  go_enter func234,ntmps234;go_wp2;go_ret;exact⟨by rw[CO J];rfl,rfl⟩
 go_enter func234,ntmps234;go_wp2;go_ret;exact⟨by rw[CO J];rfl,rfl⟩
def EX(W:O)(b:Nat)(s:BO)(e:Int)(h:BD W b s):Am X 227 #[A8 (U ⟨b,0,Y⟩),I K e] W λc a=>C0 e ((s.pos:Int)-1) c/\a=W:=by
 have f:W.cell? ⟨b,3,Y⟩=U (I K s.pos):=BB h.row 3;have d:=h.len;have g:=h.le;unfold maxLen at d;go_enter func227,ntmps227;go_wp2;exact⟨Z,Z,Z⟩
def fT(W:O)(b:Nat)(s:BO)(h:BD W b s)(d:Ny s):Am X 251 #[A8 (U ⟨b,0,Y⟩)] W λe a=>e=Af (Ac false)/\∃n,a=W.drewN n:=by
 have c:∀n,Am X 225 #[A8 (U ⟨b,0,Y⟩)] (W.drewN n) λe a=>e=Af (Ac false)/\∃m,a=(W.drewN n).drewN m:=λn=>Qz _ b s (h.drewN n) d;go_enter func251,ntmps251;go_wp2
 go_quiet (first|(go_at_call 225;exact(c _).quiet_of))
 go_wp2;go_ret;exact⟨Z,nq,Z⟩
def fU(W:O)(b:Nat)(s:BO)(c:UInt8)(h:BD W b s)(f:EW s c):Am X 251 #[A8 (U ⟨b,0,Y⟩)] W λe a=>e=Af (Ac (decide (48<=(c.toNat:Int)/\(c.toNat:Int)<=57)))/\∃n,a=W.drewN n:=by
 have j:∀n,Am X 225 #[A8 (U ⟨b,0,Y⟩)] (W.drewN n) λe a=>e=Af (Ac true)/\∃m,a=(W.drewN n).drewN m:=λn=>QB _ b s (h.drewN n) f.lt f.2;have i:∀n,Am X 234 #[I Ah c.toNat] (W.drewN n) λe a=>e=Af (Ac (decide (48<=(c.toNat:Int)/\(c.toNat:Int)<=57)))/\a=W.drewN n:=λn=>LM c _;obtain⟨g,off,k,p,q⟩:=f.cell h;have l:W.cell? ⟨b,0,Y⟩=U (G (U ⟨g,off,Y⟩) s.bs.length s.cap):=by rw[<-k];exact BB h.row 0
 have o:W.cell? ⟨b,3,Y⟩=U (I K s.pos):=BB h.row 3;have r:=f.lt;have t:(s.pos:Int)<s.bs.length:=J
 generalize decide (48<=(c.toNat:Int)/\(c.toNat:Int)<=57)=d at *;go_enter func251,ntmps251;go_wp2
 go_quiet (first|(go_at_call 225;exact(j _).quiet_of)|(go_at_call 234;exact(i _).quiet_of_same))
 go_wp2;go_ret;exact⟨Z,nq,Z⟩
def fV(W:O)(b:Nat)(s:BO)(h:BD W b s)(c:Nz s):Am X 251 #[A8 (U ⟨b,0,Y⟩)] W λe a=>C0 8 s.pos e/\A0 W a:=by
 have d:Am X 225 #[A8 (U ⟨b,0,Y⟩)] W.drew λe a=>C0 8 s.pos e/\∃m,a=W.drew.drewN m:=QA _ b s (h.drewN 1) c.1 c.2;go_enter func251,ntmps251;go_wp2;refine Ec (S:=λ_=>True) M ?_;refine D3 (i:=0) (v:=A8 (U ⟨b,0,Y⟩)) Z M M M (λ_ _ _ h=>h) (.inl ⟨Z,λW j=>rfl⟩) trivial ?_;refine C9 1 (λf g=>?_);go_simp;refine d.mono ?_;rintro e k ⟨rfl,n,rfl⟩;exact⟨Z,Z,(C5 _ _).drew.trans (F9 W.drew n)⟩
def Dm(c:UInt8):Bool:=decide (48<=(c.toNat:Int)/\(c.toNat:Int)<=57)
def Dn(bs:A1)(lim:Int)(most:Nat)(z:Bool):Nat->Nat->Nat->A5 Nat
 |0,p,num=>.ok (num,p)
 |g+1,p,num=>match bs[p]? with
  |none=>.ok (num,p)
  |some c=>if(p:Int)=lim then .error (8,p)else
   if Dm c=true then(if z=true then .error (9,p)else if(most-(c.toNat-48))/10<num then .error (10,p)else Dn bs lim most z g (p+1) (num*10+(c.toNat-48)))
   else if c.toNat=46\/c.toNat=101\/c.toNat=69 then .error (10,p)else .ok (num,p)
def ED{α:Type}(W:World)(b:Nat)(s:BO)(val:α->Al)(r:A5 α)(e:Ending)(W':World):Prop :=
 BF b W W'/\match r with
 |.ok (x,p)=>e=Af (val x)/\BD W' b {s with pos:=p}
 |.error (en,pl)=>C0 en pl e
structure Jk(W0:World)(b N:Nat)(s:BO)(W:World):Prop where
 src:BD W b s
 but:BF b W0 W
 box:W.heap[N]?=some (.cells #[.pointer (some ⟨b,0,none⟩)] 147)
 ne:N≠b
def Jk.step{s s':BO}(h:Jk W0 b N s W)(a:BD W' b s')(hb:BF b W W'):Jk W0 b N s' W' :=
 ⟨a,h.but.trans hb,(hb.block _ (BC h.box) h.ne).trans h.box,h.ne⟩
def Jk.cell{s:BO}(h:Jk W0 b N s W):W.cell? ⟨N,0,Y⟩=U (A8 (U ⟨b,0,Y⟩)):=BB h.box 0
def DS{s s':BO}(h:Hid (Jk W0 b N s W))(a:BD W' b s')(hb:BF b W W'):Hid (Jk W0 b N s' W')/\W'.cell? ⟨N,0,Y⟩=U (A8 (U ⟨b,0,Y⟩)):=⟨h.out.step a hb,(h.out.step a hb).cell⟩
def AA{s:BO}(h:BD W b s):Jk W b W.heap.size s (W.alloc (E #[A8 (U ⟨b,0,Y⟩)] 147)) :=
 ⟨h.below BN,BF.of_below BN,BI _ _,Ao (BC h.row)⟩
def QC{s:BO}(x:Int)(h:BD W b s)(d:Ny s):Am X 236 #[A8 (U ⟨b,0,Y⟩),I Ah x] W λe a=>e=Af (Ac false)/\BD a b s/\BF b W a :=
 (fR W b s x h d).mono λ_ _ ⟨f,n,c⟩=>⟨f,c▸h.drewN n,c▸BF.of_below (F9 W n)⟩
def NA{s:BO}(x:Int)(h:BD W b s)(f:EW s c):Am X 236 #[A8 (U ⟨b,0,Y⟩),I Ah x] W λe a=>e=Af (Ac ((c.toNat:Int)==x))/\BD a b s/\BF b W a :=
 (fS W b s c x h f).mono λ_ _ ⟨g,n,d⟩=>⟨g,d▸h.drewN n,d▸BF.of_below (F9 W n)⟩
def fW{s:BO}(h:BD W b s)(d:Ny s):Am X 251 #[A8 (U ⟨b,0,Y⟩)] W λe a=>e=Af (Ac false)/\BD a b s/\BF b W a :=
 (fT W b s h d).mono λ_ _ ⟨f,n,c⟩=>⟨f,c▸h.drewN n,c▸BF.of_below (F9 W n)⟩
def fX{s:BO}(h:BD W b s)(f:EW s c):Am X 251 #[A8 (U ⟨b,0,Y⟩)] W λe a=>e=Af (Ac (Dm c))/\BD a b s/\BF b W a :=
 (fU W b s c h f).mono λ_ _ ⟨g,n,d⟩=>⟨g,d▸h.drewN n,d▸BF.of_below (F9 W n)⟩
def X6(W:O)(b:Nat)(s:BO)(first:UInt8)(o:Nat)(h:BD W b s)(hm:o=9223372036854775807\/o=9223372036854775808)(L:48<=first.toNat/\first.toNat<=57):Am X 245 #[Ab #[A8 (U ⟨b,0,Y⟩)],I Ah first.toNat,I .u64 o] W
   (ED W b s (λx:Nat=>I .u64 x) (Dn s.bs s.lim o (first.toNat==48) (s.bs.length+1-s.pos) s.pos (first.toNat-48))):=by
 have Q:=T (AA h);have ad:=h.le;have ae:=h.len;unfold maxLen at ae;have ai:=L.1;have aj:=L.2;obtain⟨R,j⟩:∃R,Hid (Dn s.bs s.lim o (first.toNat==48) (s.bs.length+1-s.pos) s.pos (first.toNat-48)=R):=⟨_,show _=_ from rfl⟩
 rw[j.out];clear h L;go_enter func245,ntmps245;go_wp2;generalize W.alloc (E #[A8 (U ⟨b,0,Y⟩)] 147)=W0 at *
 go_loopg[7,8] (s.bs.length+1-s.pos) (λg x _ wr=>∃p q:Nat,x=I .u64 q/\Hid (p+g=s.bs.length+1)/\p<=s.bs.length/\q<=o/\Hid (Jk W b W.heap.size {s with pos:=p} wr)/\Hid (Dn s.bs s.lim o (first.toNat==48) g p q=R))
 case atStart=>exact⟨s.pos,first.toNat-48,AE,AD,ad,J,Q,j⟩
 case round =>
  clear Q j;obtain⟨p,q,rfl,hg,hp,ak,a,j⟩:=hrel;have i:=a.cell;obtain⟨g,rfl⟩:∃g,gk=g+1:=⟨gk-1,AT⟩
  rcases Is a.src with k|k|⟨c,k⟩
  ·have l:Hid (R=.ok (q,p)):=by
    show _=_;rw[<-j.out,Dn,Dz (by have:p=s.bs.length:=k;omega)]
   have r:=fW a.src k;have m:=λ(x:Int) (V:O) (y:BD V b {s with pos:=p})=>QC x y k;clear k j;have A:True:=trivial;have B:True:=trivial
   go_wp2_with(first
    |(go_at_call 251;refine r.mono ?_;clear r i;rintro e w2 ⟨rfl,f,d⟩;obtain⟨a,i⟩:=DS a f d;clear f d)
    |(go_at_call 236;clear A;refine(m 46 _ a.src).mono ?_;clear i;rintro e w3 ⟨rfl,f,d⟩;obtain⟨a,i⟩:=DS a f d;clear f d)
    |(go_at_call 236;clear B;refine(m 101 _ a.src).mono ?_;clear i;rintro e w4 ⟨rfl,f,d⟩;obtain⟨a,i⟩:=DS a f d;clear f d)
    |(go_at_call 236;refine(m 69 _ a.src).mono ?_;clear i;rintro e w5 ⟨rfl,f,d⟩;obtain⟨a,i⟩:=DS a f d;clear f d))
   go_ret;rw[l.out];exact⟨a.but,Z,a.src⟩
  ·have l:Hid (R=.error (8,(p:Int))):=by
    show _=_;have h2:(p:Int)=s.lim:=k.2;have h3:p<s.bs.length:=k.1;rw[<-j.out,Dn,C6 h3];simp[h2]
   have r:=fV wr b {s with pos:=p} a.src k;clear k j
   go_wp2_with(first
    |(go_at_call 251;refine r.mono ?_;clear r i;rintro e w2 ⟨rfl,d⟩))
   rw[l.out];exact⟨Z,a.but.trans (BF.of_below d),Z⟩
  have aa:s.bs[p]?=U c:=k.1;have ab:¬(p:Int)=s.lim:=k.2;have r:=fX a.src k;have m:=λ(x:Int) (V:O) (y:BD V b {s with pos:=p})=>NA x y k;have w:∀V,BD V b {s with pos:=p}->Am X 226 #[A8 (U ⟨b,0,Y⟩)] V λe S=>e=Af (I Ah c.toNat)/\BD S b {s with pos:=p+1}/\BF b V S:=λV y=>Ep V b {s with pos:=p} c y k;have af:p<s.bs.length:=k.lt;rw[Dn,aa]at j;simp only[]at j;rw[Bz ab]at j;clear k aa ab
  go_wp2_with fail
  refine r.mono ?_;clear r i;rintro e w2 ⟨rfl,f,d⟩;obtain⟨a,i⟩:=DS a f d;clear f d;cases z:Dm c
  ·rw[z]at j;rw[Bz Az]at j;clear z;have A:True:=trivial;have B:True:=trivial;by_cases t:c.toNat=46\/c.toNat=101\/c.toNat=69
   ·have l:Hid (R=.error (10,(p:Int))):=by show _=_;rw[<-j.out,BA t]
    clear j;rcases t with t|t|t
    all_goals
     first|have D:((c.toNat:Int)==46)=true:=Ax|have D:=BS (c:=c) 46 J
     first|have C:((c.toNat:Int)==101)=true:=Ax|have C:=BS (c:=c) 101 J
     first|have F:((c.toNat:Int)==69)=true:=Ax|have F:=BS (c:=c) 69 J
     clear t
     go_wp2_with(first
      |(go_at_call 236;clear A;refine(m 46 _ a.src).mono ?_;clear i;rintro e w3 ⟨rfl,f,d⟩;rw[D];obtain⟨a,i⟩:=DS a f d;clear f d)
      |(go_at_call 236;clear B;refine(m 101 _ a.src).mono ?_;clear i;rintro e w4 ⟨rfl,f,d⟩;rw[C];obtain⟨a,i⟩:=DS a f d;clear f d)
      |(go_at_call 236;refine(m 69 _ a.src).mono ?_;clear i;rintro e w5 ⟨rfl,f,d⟩;rw[F];obtain⟨a,i⟩:=DS a f d;clear f d)
      |(go_at_call 226;refine(w _ a.src).mono ?_;clear i;rintro e v ⟨rfl,f,d⟩;obtain⟨a,i⟩:=DS a f d;clear f d;have n:=λ(u:Int)=>EX v b {s with pos:=p+1} u a.src)
      |(go_at_call 227;refine(n _).mono ?_;clear n i;rintro e N ⟨hF,rfl⟩;obtain rfl:=hF))
     rw[l.out];exact⟨Z,a.but,AZ⟩
   have l:Hid (R=.ok (q,p)):=by show _=_;rw[<-j.out,Bz t]
   clear j w;have D:=BS (c:=c) 46 J;have C:=BS (c:=c) 101 J;have F:=BS (c:=c) 69 J;clear t
   go_wp2_with(first
    |(go_at_call 236;clear A;refine(m 46 _ a.src).mono ?_;clear i;rintro e w3 ⟨rfl,f,d⟩;rw[D];obtain⟨a,i⟩:=DS a f d;clear f d)
    |(go_at_call 236;clear B;refine(m 101 _ a.src).mono ?_;clear i;rintro e w4 ⟨rfl,f,d⟩;rw[C];obtain⟨a,i⟩:=DS a f d;clear f d)
    |(go_at_call 236;refine(m 69 _ a.src).mono ?_;clear i;rintro e w5 ⟨rfl,f,d⟩;rw[F];obtain⟨a,i⟩:=DS a f d;clear f d))
   go_ret;rw[l.out];exact⟨a.but,Z,a.src⟩
  rw[z]at j;rw[BA rfl]at j;have H:=CD z;have ag:=H.1;have ah:=H.2;clear z H;by_cases hz:(first.toNat:Int)=48
  ·have l:Hid (R=.error (9,(p:Int))):=by
    show _=_;rw[<-j.out,BA Ax]
   clear j m
   go_wp2_with(first
    |(go_at_call 226;refine(w _ a.src).mono ?_;clear i;rintro e v ⟨rfl,f,d⟩;obtain⟨a,i⟩:=DS a f d;clear f d;have n:=λ(u:Int)=>EX v b {s with pos:=p+1} u a.src)
    |(go_at_call 227;refine(n _).mono ?_;clear n i;rintro e N ⟨hF,rfl⟩;obtain rfl:=hF))
   rw[l.out];exact⟨Z,a.but,AZ⟩
  have P:Hid ((if(o-(c.toNat-48))/10<q then Except.error (10,(p:Int))else Dn s.bs s.lim o (first.toNat==48) g (p+1) (q*10+(c.toNat-48)))=R):=by
   have e:=j.out;rw[Bz (show¬(first.toNat==48)=true by simp;omega)]at e;exact e
  clear j m;by_cases ac:(o-(c.toNat-48))/10<q
  ·have l:Hid (R=.error (10,(p:Int))):=by
    show _=_;rw[<-P.out,BA ac]
   go_wp2_with(first
    |(go_at_call 226;refine(w _ a.src).mono ?_;clear i;rintro e v ⟨rfl,f,d⟩;obtain⟨a,i⟩:=DS a f d;clear f d;have n:=λ(u:Int)=>EX v b {s with pos:=p+1} u a.src)
    |(go_at_call 227;refine(n _).mono ?_;clear n i;rintro e N ⟨hF,rfl⟩;obtain rfl:=hF))
   rw[l.out];exact⟨Z,a.but,Z⟩
  have l:Hid (Dn s.bs s.lim o (first.toNat==48) g (p+1) (q*10+(c.toNat-48))=R):=by
   show _=_;rw[<-P.out,Bz ac]
  go_wp2_with(first
   |(go_at_call 226;refine(w _ a.src).mono ?_;clear i;rintro e v ⟨rfl,f,d⟩;obtain⟨a,i⟩:=DS a f d;clear f d;have n:=λ(u:Int)=>EX v b {s with pos:=p+1} u a.src)
   |(go_at_call 227;refine(n _).mono ?_;clear n i;rintro e N ⟨hF,rfl⟩;obtain rfl:=hF))
  go_roundg g
  case measure=>omega
  case rel=>exact⟨p+1,q*10+(c.toNat-48),AE,B6,af,J,a,l⟩
def OV{lim:Int}{most:Nat}{z:Bool}:∀{g p num:Nat} {x q:Nat},num<=most->9<=most->Dn bs lim most z g p num=.ok (x,q)->x<=most
 |0,p,num,x,q,hn,_,h=>by
  unfold Dn at h;cases h;exact hn
 |g+1,p,num,x,q,hn,hm,h=>by
  unfold Dn at h;split at h
  ·cases h;exact hn
  split at h
  ·cases h
  split at h
  ·next hd =>
   split at h
   ·cases h
   split at h
   ·cases h
   next hov =>
   have a:=CD hd;exact OV J hm h
  split at h
  ·cases h
  cases h;exact hn
def CR(s:BO)(first:UInt8):A5 Int :=
 if first.toNat=45 then
  match s.bs[s.pos]? with
  |none=>.error (9,s.pos)
  |some c=>if(s.pos:Int)=s.lim then .error (8,s.pos)else if Dm c=true then
    (match Dn s.bs s.lim 9223372036854775808 (c.toNat==48) (s.bs.length+1-(s.pos+1)) (s.pos+1) (c.toNat-48)with
    |.ok (x,p)=>.ok (-(x:Int),p)
    |.error e=>.error e)
   else .error (9,s.pos)
 else match Dn s.bs s.lim 9223372036854775807 (first.toNat==48) (s.bs.length+1-s.pos) s.pos (first.toNat-48)with
  |.ok (x,p)=>.ok ((x:Int),p)
  |.error e=>.error e
def fY(x:Nat)(h:x<=9223372036854775808):wrap64 (IntKind.u64.wrap (-(x:Int))) = -(x:Int):=by
 by_cases b:x=0
 ·subst b;have a:IntKind.u64.wrap (-((0:Nat):Int))=0:=by
   unfold IntKind.wrap;simp[IntKind.bits,IntKind.signed]
  rw[a];unfold wrap64;omega
 have a:IntKind.u64.wrap (-(x:Int))=18446744073709551616-x:=by
  unfold IntKind.wrap;simp[IntKind.bits,IntKind.signed];omega
 rw[a];unfold wrap64
 first|omega|(unfold IntKind.wrap;simp[IntKind.bits,IntKind.signed];omega)|(split<;>omega)
def fZ(W:O)(b:Nat)(s:BO)(first:UInt8)(h:BD W b s)(N:first.toNat=45\/Dm first=true):Am X 235 #[Ab #[A8 (U ⟨b,0,Y⟩)],I Ah first.toNat] W (ED W b s (λz:Int=>I K z) (CR s first)):=by
 have g:=T (AA h);obtain⟨R,u⟩:∃R,Hid (CR s first=R):=⟨_,show _=_ from rfl⟩
 rw[u.out];have w:=g.cell;by_cases S:(first.toNat:Int)=45
 ·have a:=u.out;unfold CR at a;rw[BA J]at a;rcases Is h with j|j|⟨c,j⟩
  ·have f:Hid (R=.error (9,(s.pos:Int))):=by
    show _=_;rw[Dz (by have:s.pos=s.bs.length:=j;omega)]at a;exact a.symm
   have l:=IQ _ b s g.src j;go_enter func235,ntmps235
   go_wp2_with(first
    |(go_at_call 226;refine l.mono ?_;rintro e o ⟨hF,d⟩;obtain rfl:=hF))
   rw[f.out];exact⟨Z,g.but.trans (BF.of_below d),Z⟩
  ·have f:Hid (R=.error (8,(s.pos:Int))):=by
    show _=_;rw[C6 j.1]at a;simp only[]at a;rw[BA j.2]at a;exact a.symm
   have l:=IR _ b s g.src j;go_enter func235,ntmps235
   go_wp2_with(first
    |(go_at_call 226;refine l.mono ?_;rintro e o ⟨hF,d⟩;obtain rfl:=hF))
   rw[f.out];exact⟨Z,g.but.trans (BF.of_below d),Z⟩
  rw[j.1]at a;simp only[]at a;rw[Bz j.2]at a;have l:=Ep _ b s c g.src j;have aa:=j.lt;have P:=h.len;unfold maxLen at P;cases n:decide (48<=(c.toNat:Int)/\(c.toNat:Int)<=57)
  ·have f:Hid (R=.error (9,(s.pos:Int))):=by
    show _=_;rw[Bz (by unfold Dm;rw[n];simp)]at a;exact a.symm
   go_enter func235,ntmps235
   go_wp2_with(first
    |(go_at_call 226;refine l.mono ?_;rintro e o ⟨rfl,k,d⟩;have p:=T (g.step k d);have i:=p;have w:=i.cell)
    |(go_at_call 234;refine(LM c _).mono ?_;rintro e C ⟨rfl,rfl⟩;rw[n])
    |(go_at_call 227;refine(EX _ b s.next _ i.src).mono ?_;rintro e w7 ⟨hF,rfl⟩;obtain rfl:=hF))
   rw[f.out];exact⟨Z,i.but,by show C0 _ _ _;unfold C0 Ir BO.next;simp⟩
  have t:=CD n;have H:=t.1;have L:=t.2;rw[BA (by unfold Dm;exact n)]at a;have r:=λV (F:BD V b s.next)=>X6 V b s.next c 9223372036854775808 F (.inr rfl) ⟨J,J⟩
  obtain⟨D,m⟩:∃D,Dn s.bs s.lim 9223372036854775808 (c.toNat==48) (s.bs.length+1-(s.pos+1)) (s.pos+1) (c.toNat-48)=D:=⟨_,rfl⟩
  have A:∀V,BD V b s.next->Am X 245 #[Ab #[A8 (U ⟨b,0,Y⟩)],I Ah c.toNat,I .u64 9223372036854775808] V (ED V b s.next (λx:Nat=>I .u64 x) D):=by rw[<-m];exact r
  rw[m]at a;rcases D with⟨v,y⟩|⟨x,q⟩
  ·have f:Hid (R=.error (v,y)):=a.symm;go_enter func235,ntmps235
   go_wp2_with(first
    |(go_at_call 226;refine l.mono ?_;rintro e o ⟨rfl,k,d⟩;have p:=T (g.step k d);have i:=p;have w:=i.cell)
    |(go_at_call 234;refine(LM c _).mono ?_;rintro e C ⟨rfl,rfl⟩;rw[n])
    |(go_at_call 245;refine(A _ i.src).mono ?_;rintro e Q ⟨d,hF⟩;obtain rfl:=hF))
   rw[f.out];exact⟨Z,i.but.trans d,Z⟩
  have f:Hid (R=.ok (-(x:Int),q)):=a.symm;have B:=OV J J m;go_enter func235,ntmps235
  go_wp2_with(first
   |(go_at_call 226;refine l.mono ?_;rintro e o ⟨rfl,k,d⟩;have p:=T (g.step k d);have i:=p;have w:=i.cell)
   |(go_at_call 234;refine(LM c _).mono ?_;rintro e C ⟨rfl,rfl⟩;rw[n])
   |(go_at_call 245;refine(A _ i.src).mono ?_;rintro e Q ⟨d,rfl,k⟩))
  go_ret;rw[f.out];exact⟨i.but.trans d,congrArg (λz=>Ending.returned (Value.int K z)) (fY x B),k⟩
 have t:=CD (N.resolve_left J);have H:=t.1;have L:=t.2;have r:=X6 (W.alloc (E #[A8 (U ⟨b,0,Y⟩)] 147)) b s first 9223372036854775807 g.src (.inl Z) ⟨J,J⟩
 have a:=u.out;unfold CR at a;rw[Bz J]at a;obtain⟨D,m⟩:∃D,Dn s.bs s.lim 9223372036854775807 (first.toNat==48) (s.bs.length+1-s.pos) s.pos (first.toNat-48)=D:=⟨_,rfl⟩
 rw[m]at r a;rcases D with⟨v,y⟩|⟨x,q⟩
 ·have f:Hid (R=.error (v,y)):=a.symm;go_enter func235,ntmps235
  go_wp2_with(first
   |(go_at_call 245;refine r.mono ?_;rintro e o ⟨d,hF⟩;obtain rfl:=hF))
  rw[f.out];exact⟨Z,g.but.trans d,Z⟩
 have f:Hid (R=.ok ((x:Int),q)):=a.symm;have B:=OV J J m;go_enter func235,ntmps235
 go_wp2_with(first
  |(go_at_call 245;refine r.mono ?_;rintro e o ⟨d,rfl,k⟩))
 go_ret;rw[f.out];exact⟨g.but.trans d,Z,k⟩
def GW(c:UInt8):Bool:=c.toNat==32||(c.toNat==9||(c.toNat==10||c.toNat==13))
def Cd(bs:A1)(lim:Int):Nat->Nat->A5 Unit
 |0,p=>.ok ((),p)
 |g+1,p=>match bs[p]? with
  |none=>.ok ((),p)
  |some c=>if(p:Int)=lim then .error (8,p)else if GW c=true then Cd bs lim g (p+1)else .ok ((),p)
def KY(W:O)(b:Nat)(s:BO)(h:BD W b s):Am X 229 #[Ab #[A8 (U ⟨b,0,Y⟩)]] W (ED W b s (λ_:Unit=>Aa #[]) (Cd s.bs s.lim (s.bs.length+1-s.pos) s.pos)):=by
 have B:=T (AA h);have aa:=h.le;obtain⟨R,j⟩:∃R,Hid (Cd s.bs s.lim (s.bs.length+1-s.pos) s.pos=R):=⟨_,show _=_ from rfl⟩
 rw[j.out];clear h;go_enter func229,ntmps229;go_wp2;generalize W.alloc (E #[A8 (U ⟨b,0,Y⟩)] 147)=W0 at *
 go_loopg[2] (s.bs.length+1-s.pos) (λg _ wr=>∃p:Nat,Hid (p+g=s.bs.length+1)/\p<=s.bs.length/\Hid (Jk W b W.heap.size {s with pos:=p} wr)/\Hid (Cd s.bs s.lim g p=R))
 case atStart=>exact⟨s.pos,AD,aa,B,j⟩
 case round =>
  clear B j;obtain⟨p,L,hp,a,j⟩:=hrel;have i:=a.cell;obtain⟨g,rfl⟩:∃g,gk=g+1:=⟨gk-1,Ao L.out⟩
  rcases Is a.src with k|k|⟨c,k⟩
  ·have m:Hid (R=.ok ((),p)):=by
    show _=_;rw[<-j.out,Cd,Dz (by have:p=s.bs.length:=k;omega)]
   have l:=λ(x:Int) (V:O) (n:BD V b {s with pos:=p})=>QC x n k;clear k j;have o:True:=trivial;have q:True:=trivial;have r:True:=trivial
   go_wp2_with(first
    |(go_at_call 236;clear o;refine(l 32 _ a.src).mono ?_;clear i;rintro e A ⟨rfl,f,d⟩;obtain⟨a,i⟩:=DS a f d;clear f d)
    |(go_at_call 236;clear q;refine(l 9 _ a.src).mono ?_;clear i;rintro e N ⟨rfl,f,d⟩;obtain⟨a,i⟩:=DS a f d;clear f d)
    |(go_at_call 236;clear r;refine(l 10 _ a.src).mono ?_;clear i;rintro e P ⟨rfl,f,d⟩;obtain⟨a,i⟩:=DS a f d;clear f d)
    |(go_at_call 236;refine(l 13 _ a.src).mono ?_;clear i;rintro e Q ⟨rfl,f,d⟩;obtain⟨a,i⟩:=DS a f d;clear f d))
   go_end0;rw[m.out];exact⟨a.but,Z,a.src⟩
  ·have m:Hid (R=.error (8,(p:Int))):=by
    show _=_;have h2:(p:Int)=s.lim:=k.2;have h3:p<s.bs.length:=k.1;rw[<-j.out,Cd,C6 h3];simp[h2]
   have D:=Th wr b {s with pos:=p} 32 a.src k;clear k j
   go_wp2_with(first
    |(go_at_call 236;refine D.mono ?_;clear D i;rintro e A ⟨rfl,d⟩))
   rw[m.out];exact⟨Z,a.but.trans (BF.of_below d),Z⟩
  have F:s.bs[p]?=U c:=k.1;have H:¬(p:Int)=s.lim:=k.2;have l:=λ(x:Int) (V:O) (n:BD V b {s with pos:=p})=>NA x n k;have S:∀V,BD V b {s with pos:=p}->Am X 226 #[A8 (U ⟨b,0,Y⟩)] V λe C=>e=Af (I Ah c.toNat)/\BD C b {s with pos:=p+1}/\BF b V C:=λV n=>Ep V b {s with pos:=p} c n k;have ab:p<s.bs.length:=k.lt;rw[Cd,F]at j;simp only[]at j;rw[Bz H]at j;clear k F H;have o:True:=trivial;have q:True:=trivial;have r:True:=trivial;by_cases z:c.toNat=32\/c.toNat=9\/c.toNat=10\/c.toNat=13
  ·have m:Hid (Cd s.bs s.lim g (p+1)=R):=by
    show _=_;rw[<-j.out,BA (by unfold GW;simpa using z)]
   clear j;rcases z with y|y|y|y
   all_goals
    first|have v:((c.toNat:Int)==32)=true:=Ax|have v:=BS (c:=c) 32 J
    first|have w:((c.toNat:Int)==9)=true:=Ax|have w:=BS (c:=c) 9 J
    first|have t:((c.toNat:Int)==10)=true:=Ax|have t:=BS (c:=c) 10 J
    first|have u:((c.toNat:Int)==13)=true:=Ax|have u:=BS (c:=c) 13 J
    clear y
    go_wp2_with(first
     |(go_at_call 236;clear o;refine(l 32 _ a.src).mono ?_;clear i;rintro e A ⟨rfl,f,d⟩;rw[v];obtain⟨a,i⟩:=DS a f d;clear f d)
     |(go_at_call 236;clear q;refine(l 9 _ a.src).mono ?_;clear i;rintro e N ⟨rfl,f,d⟩;rw[w];obtain⟨a,i⟩:=DS a f d;clear f d)
     |(go_at_call 236;clear r;refine(l 10 _ a.src).mono ?_;clear i;rintro e P ⟨rfl,f,d⟩;rw[t];obtain⟨a,i⟩:=DS a f d;clear f d)
     |(go_at_call 236;refine(l 13 _ a.src).mono ?_;clear i;rintro e Q ⟨rfl,f,d⟩;rw[u];obtain⟨a,i⟩:=DS a f d;clear f d)
     |(go_at_call 226;refine(S _ a.src).mono ?_;clear i;rintro e w6 ⟨rfl,f,d⟩;obtain⟨a,i⟩:=DS a f d;clear f d))
    go_roundg g
    case measure=>omega
    case rel=>exact⟨p+1,Ap L.out,ab,a,m⟩
  have m:Hid (R=.ok ((),p)):=by
   show _=_;rw[<-j.out,Bz (by unfold GW;simpa using z)]
  clear j;have v:=BS (c:=c) 32 J;have w:=BS (c:=c) 9 J;have t:=BS (c:=c) 10 J;have u:=BS (c:=c) 13 J;clear z
  go_wp2_with(first
   |(go_at_call 236;clear o;refine(l 32 _ a.src).mono ?_;clear i;rintro e A ⟨rfl,f,d⟩;rw[v];obtain⟨a,i⟩:=DS a f d;clear f d)
   |(go_at_call 236;clear q;refine(l 9 _ a.src).mono ?_;clear i;rintro e N ⟨rfl,f,d⟩;rw[w];obtain⟨a,i⟩:=DS a f d;clear f d)
   |(go_at_call 236;clear r;refine(l 10 _ a.src).mono ?_;clear i;rintro e P ⟨rfl,f,d⟩;rw[t];obtain⟨a,i⟩:=DS a f d;clear f d)
   |(go_at_call 236;refine(l 13 _ a.src).mono ?_;clear i;rintro e Q ⟨rfl,f,d⟩;rw[u];obtain⟨a,i⟩:=DS a f d;clear f d))
  go_end0;rw[m.out];exact⟨a.but,Z,a.src⟩
def Gz(s:BO):A5 Unit :=
 match s.bs[s.pos]? with
 |none=>.ok ((),s.pos)
 |some _=>if(s.pos:Int)=s.lim then .error (8,s.pos)else .error (9,s.pos)
def X7(W:O)(b:Nat)(s:BO)(h:BD W b s):Am X 222 #[A8 (U ⟨b,0,Y⟩)] W (ED W b s (λ_:Unit=>Aa #[]) (Gz s)):=by
 obtain⟨R,i⟩:∃R,Hid (Gz s=R):=⟨_,show _=_ from rfl⟩
 rw[i.out];have d:=i.out;unfold Gz at d;rcases Is h with a|a|⟨c,a⟩
 ·have g:Hid (R=.ok ((),s.pos)):=by
   show _=_;rw[Dz (by have:s.pos=s.bs.length:=a;omega)]at d;exact d.symm
  have f:=Qz W b s h a;have j:=T h;clear d i h a;go_enter func222,ntmps222
  go_wp2_with(first
   |(go_at_call 225;refine f.mono ?_;clear f;rintro e m ⟨rfl,n,rfl⟩))
  go_end0;rw[g.out];exact⟨BF.of_below (F9 W n),Z,j.drewN n⟩
 ·have g:Hid (R=.error (8,(s.pos:Int))):=by
   show _=_;rw[C6 a.1]at d;simp only[]at d;rw[BA a.2]at d;exact d.symm
  have f:=QA W b s h a.1 a.2;clear d i h a;go_enter func222,ntmps222
  go_wp2_with(first
   |(go_at_call 225;refine f.mono ?_;clear f;rintro e m ⟨hF,n,rfl⟩;obtain rfl:=hF))
  rw[g.out];exact⟨Z,BF.of_below (F9 W n),Z⟩
 have g:Hid (R=.error (9,(s.pos:Int))):=by
  show _=_;rw[a.1]at d;simp only[]at d;rw[Bz a.2]at d;exact d.symm
 have f:=QB W b s h a.lt a.2;have r:=λV (t:BD V b s)=>Ep V b s c t a;have j:=T h;have v:=a.lt;have u:=h.len;unfold maxLen at u;clear d i h a;go_enter func222,ntmps222
 go_wp2_with(first
  |(go_at_call 225;refine f.mono ?_;clear f;rintro e m ⟨rfl,n,rfl⟩;have p:=T (j.drewN n))
  |(go_at_call 226;refine(r _ p).mono ?_;rintro e w ⟨rfl,l,k⟩;have q:=T l;have o:=T k;clear l k)
  |(go_at_call 227;refine(EX _ b s.next _ q).mono ?_;rintro e x ⟨hF,rfl⟩;obtain rfl:=hF))
 rw[g.out];exact⟨Z,(BF.of_below (F9 W n)).trans o,by show C0 _ _ _;unfold C0 Ir BO.next;simp⟩
def OW(z:Int):Al:=Ad 208 (A6 Ag z)
def ga(W:O)(b:Nat)(s:BO)(c:UInt8)(h:BD W b s)(v:EW s c)(m:c.toNat=45\/Dm c=true):Am X 228 #[Ab #[A8 (U ⟨b,0,Y⟩)]] W (ED W b s OW (CR s.next c)):=by
 have k:=T (AA h);have i:=k.cell;have l:=Ep _ b s c k.src v;have u:=λV (L:BD V b s.next)=>fZ V b s.next c L m
 obtain⟨R,p⟩:∃R,Hid (CR s.next c=R):=⟨_,show _=_ from rfl⟩
 rw[p.out];have g:∀V,BD V b s.next->Am X 235 #[Ab #[A8 (U ⟨b,0,Y⟩)],I Ah c.toNat] V (ED V b s.next (λz:Int=>I K z) R):=by rw[<-p.out];exact u
 have N:(c.toNat:Int)=45\/(48<=(c.toNat:Int)/\(c.toNat:Int)<=57):=by
  rcases m with m|m
  ·left;omega
  right;exact CD m
 have x:¬(c.toNat:Int)=110:=J
 have y:¬(c.toNat:Int)=116:=J
 have A:¬(c.toNat:Int)=102:=J
 have B:¬(c.toNat:Int)=34:=J
 have C:¬(c.toNat:Int)=91:=J
 have D:¬(c.toNat:Int)=123:=J
 clear u p m v h;have S:=EJ.2 x;have e2:=EJ.2 y;have e3:=EJ.2 A;have e4:=EJ.2 B;have e5:=EJ.2 C;have e6:=EJ.2 D;clear x y A B C D;rcases N with n|n
 ·have F:=KU.2 n;clear n;rcases hR2:R with⟨H,P⟩|⟨z,q⟩
  ·have o:=T hR2;rw[hR2]at g;clear hR2;go_enter func228,ntmps228
   go_wp2_with(first
    |(go_at_call 226;refine l.mono ?_;clear l i;rintro e r ⟨rfl,f,a⟩;have j:=T (k.step f a);clear k f a;have d:=j;clear j;have i:=d.cell)
    |(go_at_call 235;refine(g _ d.src).mono ?_;clear g i;rintro e t ⟨a,hF⟩;obtain rfl:=hF))
   exact⟨Z,d.but.trans a,Z⟩
  have o:=T hR2;rw[hR2]at g;clear hR2;go_enter func228,ntmps228
  go_wp2_with(first
   |(go_at_call 226;refine l.mono ?_;clear l i;rintro e r ⟨rfl,f,a⟩;have j:=T (k.step f a);clear k f a;have d:=j;clear j;have i:=d.cell)
   |(go_at_call 235;refine(g _ d.src).mono ?_;clear g i;rintro e t ⟨a,rfl,f⟩))
  go_ret;exact⟨d.but.trans a,Z,f⟩
 have w:=CH n;have F:((c.toNat:Int)==45)=false:=EJ.2 J;clear n;rcases hR2:R with⟨H,P⟩|⟨z,q⟩
 ·have o:=T hR2;rw[hR2]at g;clear hR2;go_enter func228,ntmps228
  go_wp2_with(first
   |(go_at_call 226;refine l.mono ?_;clear l i;rintro e r ⟨rfl,f,a⟩;have j:=T (k.step f a);clear k f a;have d:=j;clear j;have i:=d.cell)
   |(go_at_call 234;refine(LM c _).mono ?_;rintro e Q ⟨rfl,rfl⟩;rw[w])
   |(go_at_call 235;refine(g _ d.src).mono ?_;clear g i;rintro e t ⟨a,hF⟩;obtain rfl:=hF))
  exact⟨Z,d.but.trans a,Z⟩
 have o:=T hR2;rw[hR2]at g;clear hR2;go_enter func228,ntmps228
 go_wp2_with(first
  |(go_at_call 226;refine l.mono ?_;clear l i;rintro e r ⟨rfl,f,a⟩;have j:=T (k.step f a);clear k f a;have d:=j;clear j;have i:=d.cell)
  |(go_at_call 234;refine(LM c _).mono ?_;rintro e Q ⟨rfl,rfl⟩;rw[w])
  |(go_at_call 235;refine(g _ d.src).mono ?_;clear g i;rintro e t ⟨a,rfl,f⟩))
 go_ret;exact⟨d.but.trans a,Z,f⟩
structure Er(W:World)(ia:A4)(bs:A1):Prop where
 at_:∀i (h:i<bs.length),∃g off,ia=some ⟨g,off,none⟩/\g<W.heap.size/\W.cell? ⟨g,off+i,none⟩=some (.int .u8 (bs[i]'h).toNat)
 len:bs.length<=maxLen
def Er.below{ia:A4}(h:Er W ia bs)(hb:A0 W W'):Er W' ia bs :=
 ⟨λi d=>by
  obtain⟨g,off,b,a,c⟩:=h.at_ i d;exact⟨g,off,b,CA a hb.size,(hb.cell (p:=⟨g,off+i,Y⟩) a).trans c⟩,h.len⟩
def Ti{ia:A4}{cap:Nat}{d l:Int}(h:Er W ia bs)(hb:A0 W W')(k:W.heap.size<=b)(j:W'.heap[b]?=U (E (BO.arr ⟨ia,bs,cap,d,l,0,0⟩) 145)):BD W' b ⟨ia,bs,cap,d,l,0,0⟩ :=
 ⟨j,λi f=>by
  obtain⟨g,off,a,c,e⟩:=h.at_ i f;exact⟨g,off,a,J,(hb.cell (p:=⟨g,off+i,Y⟩) c).trans e⟩,h.len,DK _⟩
def X8(W:O)(a:A4)(bs:A1)(c:Nat)(d l:Int)(h:Er W a bs):Am X 37 #[I K 1,Ab #[I K d,I K l],G a bs.length c] W λe f =>
   ∃b,e=Af (Ad 147 (Ab #[A8 (U ⟨b,0,Y⟩)]))/\BD f b ⟨a,bs,c,d,l,0,0⟩/\W.heap.size<=b/\A0 W f:=by
 have j:=T h;go_enter func37,ntmps37;go_wp2;go_ret;have g:A0 W ((W.alloc (E #[I K d,I K l] 61)).alloc (E #[G a bs.length c,I K d,I K l,I K 0,I K 0] 145)):=(BN).alloc Az _;have i:=BI (W.alloc (E #[I K d,I K l] 61)) (E #[G a bs.length c,I K d,I K l,I K 0,I K 0] 145);rw[BU]at i;exact⟨W.heap.size+1,Z,Ti j g J i,J,g⟩
def Hu{V V':O}(h:A0 W V)(a:BF b V V')(hb:W.heap.size<=b):A0 W V' :=
 ⟨a.os.trans h.os,a.tape.trans h.tape,a.output.trans h.output,C7 h.size a.size,λk c=>(a.block k B1 J).trans (h.block k c)⟩
def LN{α:Type}{P:Program}{o:Oper}{a:Act}{K:Act->O->Prop}{Q:Exit->Act->O->Prop}{x:Result α}{y:α}{w:O}{k:α->O->Result Next}(h:x=.ok y w)(b:o.upon P a K Q (k y w)):o.upon P a K Q (x.andThen k):=by rw[h];exact b
def Ia(c:UInt8):Option Nat:=if Dm c=true then some (c.toNat-48)else if 97<=c.toNat/\c.toNat<=102 then some (c.toNat-87)else if 65<=c.toNat/\c.toNat<=70 then some (c.toNat-55)else none
def QU{d:Nat}(h:Ia c=U d):d<16:=by
 unfold Ia at h;split at h
 ·next hd=>have:=CD hd;cases h;omega
 split at h
 ·cases h;omega
 split at h
 ·cases h;omega
 cases h
def Kr(c:UInt8):Al:=match Ia c with
 |some d=>Aa #[A6 .i32 d,Ac true]
 |none=>Aa #[A6 .i32 0,Ac false]
def jU(c:UInt8)(w:O):Am X 256 #[I Ah c.toNat] w λe l=>e=Af (Kr c)/\l=w:=by
 have b:=LM c w;have p:=c.toNat_lt;by_cases g:48<=(c.toNat:Int)/\(c.toNat:Int)<=57
 ·have a:Hid (Kr c=Aa #[I .i32 ((c.toNat:Int)-48),Ac true]):=by
   show _=_;unfold Kr Ia;rw[BA (show Dm c=true from CH g)];simp only[];rw[show((c.toNat-48:Nat):Int)=(c.toNat:Int)-48 by omega]
  have d:=CH g;rw[d]at b;go_enter func256,ntmps256
  go_wp2_with(first|(go_at_call 234;refine b.mono ?_;rintro e i ⟨rfl,rfl⟩))
  go_ret2
  rw[a.out];exact⟨Z,Z⟩
 have d:=CO g;have h:Dm c=false:=d;rw[d]at b;by_cases f:97<=c.toNat/\c.toNat<=102
 ·have a:Hid (Kr c=Aa #[I .i32 ((c.toNat:Int)-97+10),Ac true]):=by
   show _=_;unfold Kr Ia;rw[Bz (by rw[h];simp),BA f];simp only[];rw[show((c.toNat-87:Nat):Int)=(c.toNat:Int)-97+10 by omega]
  have k:decide (97<=(c.toNat:Int))=true:=Ax
  have m:decide ((c.toNat:Int)<=102)=true:=Ax
  go_enter func256,ntmps256
  go_wp2_with(first|(go_at_call 234;refine b.mono ?_;rintro e i ⟨rfl,rfl⟩))
  go_ret2
  rw[a.out];exact⟨Z,Z⟩
 by_cases j:65<=c.toNat/\c.toNat<=70
 ·have a:Hid (Kr c=Aa #[I .i32 ((c.toNat:Int)-65+10),Ac true]):=by
   show _=_;unfold Kr Ia;rw[Bz (by rw[h];simp),Bz f,BA j];simp only[];rw[show((c.toNat-55:Nat):Int)=(c.toNat:Int)-65+10 by omega]
  have k:decide (97<=(c.toNat:Int))=false:=Ax
  have n:decide (65<=(c.toNat:Int))=true:=Ax
  have o:decide ((c.toNat:Int)<=70)=true:=Ax
  go_enter func256,ntmps256
  go_wp2_with(first|(go_at_call 234;refine b.mono ?_;rintro e i ⟨rfl,rfl⟩))
  go_ret2
  rw[a.out];exact⟨Z,Z⟩
 have a:Hid (Kr c=Aa #[I .i32 0,Ac false]):=by
  show _=_;unfold Kr Ia;rw[Bz (by rw[h];simp),Bz f,Bz j]
 go_enter func256,ntmps256
 go_wp2_with(first|(go_at_call 234;refine b.mono ?_;rintro e i ⟨rfl,rfl⟩))
 all_goals first
  |(exfalso;omega)
  |(go_ret2;rw[a.out];exact⟨Z,Z⟩)
def Do(bs:A1)(lim:Int):Nat->Nat->Nat->A5 Nat
 |0,p,a=>.ok (a,p)
 |k+1,p,a=>match bs[p]? with
  |none=>.error (9,p)
  |some c=>if(p:Int)=lim then .error (8,p)else match Ia c with
   |none=>.error (9,p)
   |some d=>Do bs lim k (p+1) (a*16+d)
def Y7(W:O)(b:Nat)(s:BO)(h:BD W b s):Am X 252 #[Ab #[A8 (U ⟨b,0,Y⟩)]] W (ED W b s (λx:Nat=>I .i32 x) (Do s.bs s.lim 4 s.pos 0)):=by
 have D:=T (AA h);obtain⟨R,j⟩:∃R,Hid (Do s.bs s.lim 4 s.pos 0=R):=⟨_,show _=_ from rfl⟩
 rw[j.out];go_enter func252,ntmps252;go_wp2;generalize W.alloc (E #[A8 (U ⟨b,0,Y⟩)] 147)=W0 at *
 go_loopg[3,6] 4 (λm y z wr=>∃(k g:Nat),y=I .i32 g/\z=I K k/\Hid (m+k=4)/\Hid (g<16^k)/\Hid (Jk W b W.heap.size {s with pos:=s.pos+k} wr)/\Hid (Do s.bs s.lim m (s.pos+k) g=R))
 case atStart=>exact⟨0,0,rfl,rfl,rfl,by show 0<1;decide,D,j⟩
 case round =>
  obtain⟨k,g,rfl,rfl,t,A,a,j⟩:=hrel;have P:=a.cell
  cases gk with
  |zero =>
   have e:k=4:=Ao t.out
   subst e;have i:Hid (R=.ok (g,s.pos+4)):=j.symm;go_wp2;go_ret;rw[i.out];exact⟨a.but,Z,a.src⟩
  |succ m =>
   have aa:k<4:=Ao t.out
   have ab:decide ((k:Int)<4)=true:=Ax
   have S:g<4096:=CA A.out (C7 (Oy Ay (show k<=3 from J)) Ay);rcases Is a.src with f|f|⟨c,f⟩
   ·have i:Hid (R=.error (9,((s.pos+k:Nat):Int))):=by
     show _=_;rw[<-j.out,Do,Dz (by have:s.pos+k=s.bs.length:=f;omega)]
    have o:=IQ _ b {s with pos:=s.pos+k} a.src f
    go_wp2_with(first
     |(go_at_call 226;refine o.mono ?_;rintro e u ⟨hF,l⟩;obtain rfl:=hF))
    rw[i.out];exact⟨Z,a.but.trans (BF.of_below l),Z⟩
   ·have i:Hid (R=.error (8,((s.pos+k:Nat):Int))):=by
     show _=_;have F:((s.pos+k:Nat):Int)=s.lim:=f.2;have H:s.pos+k<s.bs.length:=f.1;rw[<-j.out,Do,C6 H];simp only[];rw[BA F]
    have o:=IR _ b {s with pos:=s.pos+k} a.src f
    go_wp2_with(first
     |(go_at_call 226;refine o.mono ?_;rintro e u ⟨hF,l⟩;obtain rfl:=hF))
    rw[i.out];exact⟨Z,a.but.trans (BF.of_below l),Z⟩
   have L:s.bs[s.pos+k]?=U c:=f.1;have N:¬((s.pos+k:Nat):Int)=s.lim:=f.2;have n:=j.out;rw[Do,L]at n;simp only[]at n;rw[Bz N]at n;have q:=λw=>jU c w;unfold Kr at q;have o:Am X 226 #[A8 (U ⟨b,0,Y⟩)] wr λe v=>e=Af (I Ah c.toNat)/\BD v b {s with pos:=s.pos+(k+1)}/\BF b wr v:=Ep _ b {s with pos:=s.pos+k} c a.src f;rcases hv:Ia c with _|d
   ·rw[hv]at n q;have i:Hid (R=.error (9,((s.pos+k:Nat):Int))):=n.symm
    go_wp2_with(first
     |(go_at_call 226;refine o.mono ?_;rintro e u ⟨rfl,r,l⟩;have p:=T (a.step r l);have P:=p.cell)
     |(go_at_call 256;refine(q _).mono ?_;rintro e Q ⟨rfl,rfl⟩)
     |(go_at_call 227;refine(EX _ b {s with pos:=s.pos+(k+1)} _ p.src).mono ?_;rintro e w7 ⟨hF,rfl⟩;obtain rfl:=hF))
    rw[i.out];exact⟨Z,p.but,by show C0 _ _ _;unfold C0 Ir;simp;omega⟩
   rw[hv]at n q;have C:Hid (Do s.bs s.lim m (s.pos+(k+1)) (g*16+d)=R):=n;have V:=QU hv;have B:Hid (g*16+d<16^(k+1)):=by show _<_;rw[Jf];have:=A.out;omega
   go_wp2_with(first
    |(go_at_call 226;refine o.mono ?_;rintro e u ⟨rfl,r,l⟩;have p:=T (a.step r l))
    |(go_at_call 256;refine(q _).mono ?_;rintro e Q ⟨rfl,rfl⟩))
   go_roundg m
   case measure=>omega
   case rel=>exact⟨k+1,g*16+d,Az,AE,Ap t.out,B,p,C⟩
def Ci(bs:A1)(lim:Int):A1->Nat->A5 Unit
 |[],p=>.ok ((),p)
 |x::xs,p=>match bs[p]? with
  |none=>.error (9,p)
  |some c=>if(p:Int)=lim then .error (8,p)else if c=x then Ci bs lim xs (p+1)else .error (9,p)
def NP(W:O)(b:Nat)(s:BO)(l:A1)(hl:l.length<=100)(h:BD W b s):Am X 230 #[Ab #[A8 (U ⟨b,0,Y⟩)],A9 ⟨l.toArray⟩] W (ED W b s (λ_:Unit=>Aa #[]) (Ci s.bs s.lim l s.pos)):=by
 have N:=T (AA h);obtain⟨R,p⟩:∃R,Hid (Ci s.bs s.lim l s.pos=R):=⟨_,show _=_ from rfl⟩
 rw[p.out];go_enter func230,ntmps230;go_wp2;generalize W.alloc (E #[A8 (U ⟨b,0,Y⟩)] 147)=W0 at *
 go_loopg[4,7] l.length (λm _ af wr=>∃(k:Nat),af=I K k/\Hid (m+k=l.length)/\Hid (Jk W b W.heap.size {s with pos:=s.pos+k} wr)/\Hid (Ci s.bs s.lim (l.drop k) (s.pos+k)=R))
 case atStart=>exact⟨0,rfl,rfl,N,p⟩
 case round =>
  obtain⟨k,rfl,A,g,p⟩:=hrel;have kb:=g.cell
  cases gk with
  |zero =>
   have e:k=l.length:=Ao A.out
   have f:Hid (R=.ok ((),s.pos+k)):=by
    show _=_;rw[<-p.out,K9 J];rfl
   have P:decide ((k:Int)<(l.length:Int))=false:=Ax
   have Q:decide (k<l.length)=false:=Ax
   go_wp2;go_end0;rw[f.out];exact⟨g.but,Z,g.src⟩
  |succ m =>
   have w:k<l.length:=Ao A.out
   have P:decide ((k:Int)<(l.length:Int))=true:=Ax
   have Q:decide (k<l.length)=true:=Ax
   obtain⟨x,D⟩:∃x,l[k]=x:=⟨_,rfl⟩
   have ad:l.drop k=x::l.drop (k+1):=by rw[G7 w,D]
   have H:Hid (l[k]?=U x):=by show _=_;rw[C6 w,D]
   have t:{wr with drawn:=wr.drawn+1}.cell? ⟨W.heap.size,0,Y⟩=U (A8 (U ⟨b,0,Y⟩)):=kb;have u:Hid (BD {wr with drawn:=wr.drawn+1} b {s with pos:=s.pos+k}):=g.src.drewN 1;have y:Hid (BF b wr {wr with drawn:=wr.drawn+1}):=BF.of_below (F9 wr 1);have d:=p.out;rw[ad,Ci]at d;go_wp2;refine Ec (S:=λV=>V.cell? ⟨W.heap.size,0,Y⟩=U (A8 (U ⟨b,0,Y⟩))) M ?_;refine D3 (i:=0) (v:=A8 (U ⟨W.heap.size,0,Y⟩)) Z M M M (λ_ _ _ h=>h) (.inl ⟨Z,λV n=>rfl⟩) t ?_;refine D3 (i:=1) (v:=A8 (U ⟨b,0,Y⟩)) Z M M M (λ_ _ _ h=>h) (.inl ⟨Z,λV n=>?y1⟩) t ?_
   case y1=>go_simp
   refine D3 (i:=3) (v:=A9 ⟨l.toArray⟩) Z M M M (λ_ _ _ h=>h) (.inl ⟨Z,λV n=>rfl⟩) t ?_;refine D3 (i:=4) (v:=I K k) Z M M M (λ_ _ _ h=>h) (.inl ⟨Z,λV n=>rfl⟩) t ?_;refine D3 (i:=5) (v:=I Ah x.toNat) Z M M M (λ_ _ _ h=>h) (.inl ⟨Z,λV n=>?y5⟩) t ?_
   case y5 =>
    have ae:=EB ((C6 w).symm.trans H);go_simp;show(((l.toArray)[k]'(by simpa using w)).toNat:Int)=_;rw[Wr,ae]
   refine C9 2 (λag hK=>?_);rcases Is u with a|a|⟨c,a⟩
   ·have f:Hid (R=.error (9,((s.pos+k:Nat):Int))):=by
     show _=_;rw[<-d,Dz (by have:s.pos+k=s.bs.length:=a;omega)]
    have q:=IQ _ b {s with pos:=s.pos+k} u a;go_simp;refine q.mono ?_;rintro e F ⟨hF,r⟩;obtain rfl:=hF;exact⟨Z,(g.but.trans y).trans (BF.of_below r),by rw[f.out];rfl⟩
   ·have f:Hid (R=.error (8,((s.pos+k:Nat):Int))):=by
     show _=_;have h2:((s.pos+k:Nat):Int)=s.lim:=a.2;have h3:s.pos+k<s.bs.length:=a.1;rw[<-d,C6 h3];simp only[];rw[BA h2]
    have q:=IR _ b {s with pos:=s.pos+k} u a;go_simp;refine q.mono ?_;rintro e F ⟨hF,r⟩;obtain rfl:=hF;exact⟨Z,(g.but.trans y).trans (BF.of_below r),by rw[f.out];rfl⟩
   have z:s.bs[s.pos+k]?=U c:=a.1;have aa:¬((s.pos+k:Nat):Int)=s.lim:=a.2;rw[z]at d;simp only[]at d;rw[Bz aa]at d;have q:Am X 226 #[A8 (U ⟨b,0,Y⟩)] {wr with drawn:=wr.drawn+1} λe B=>e=Af (I Ah c.toNat)/\BD B b {s with pos:=s.pos+(k+1)}/\BF b {wr with drawn:=wr.drawn+1} B:=Ep _ b {s with pos:=s.pos+k} c u a;go_simp;refine q.mono ?_;rintro e F ⟨rfl,hS,r⟩;simp only[];have j:=T (g.step hS (y.trans r));refine hK.out _ _ j.cell (λ_=>?_);have ah:=j.cell;by_cases o:c=x
   ·have ab:((c.toNat:Int)==(x.toNat:Int))=true:=by rw[o];simp
    have ac:c.toNat=x.toNat:=by rw[o]
    have L:Hid (Ci s.bs s.lim (l.drop (k+1)) (s.pos+(k+1))=R):=by show _=_;rw[<-d,BA o];rfl
    refine D3 (i:=6) (v:=Ac false) Z M M M (λ_ _ _ h=>h) (.inl ⟨Z,λV n=>?y6⟩) j.cell ?_
    case y6=>(go_simp;first|done|omega|assumption|trace_state)
    refine Cv ?_;go_wp2;go_roundg m
    case measure=>omega
    case rel=>exact⟨k+1,AE,Ap A.out,j,L⟩
   have ab:((c.toNat:Int)==(x.toNat:Int))=false:=by
    simp only[EJ,ne_eq];intro C;exact o (LH.1 J)
   have ac:¬c.toNat=x.toNat:=λC=>o (LH.1 C);have f:Hid (R=.error (9,((s.pos+k:Nat):Int))):=by show _=_;rw[<-d,Bz o]
   refine D3 (i:=6) (v:=Ac true) Z M M M (λ_ _ _ h=>h) (.inl ⟨Z,λV n=>?y6⟩) j.cell ?_
   case y6=>(go_simp;first|done|omega|assumption|trace_state)
   refine Cv ?_
   go_wp2_with(first
    |(go_at_call 227;refine(EX _ b {s with pos:=s.pos+(k+1)} _ j.src).mono ?_;rintro e w7 ⟨hF,rfl⟩;obtain rfl:=hF))
   rw[f.out];exact⟨Z,j.but,by show C0 _ _ _;unfold C0 Ir;simp;omega⟩
def M4(bs:A1)(fm d l:Int):Al:=Ab #[A9 ⟨bs.toArray⟩,A6 Ag fm,A6 Ag d,A6 Ag l]
def Cy(bs:A1)(l:Int)(i:Nat):Bool:=decide (i<bs.length)&&decide ((i:Int)<l)
def CS(bs:A1)(l:Int)(i:Nat)(e:Int):Int×Int:=if l<=i/\i<bs.length then(8,i)else if bs.length<=i then(9,bs.length)else(e,i)
def bw(x:Int×Int):Al:=Ab #[A6 Ag x.1,A6 Ag x.2]
def M5(bs:A1):(⟨bs.toArray⟩:ByteArray).size=bs.length:=by
 show bs.toArray.size=_;simp
def RR(W:O)(bs:A1)(fm d l:Int)(i:Nat):Am X 68 #[M4 bs fm d l,I K i] W λe g=>e=Af (Ac (Cy bs l i))/\A0 W g:=by
 have m:=M5 bs;obtain⟨R,c⟩:∃R,Hid (Cy bs l i=R):=⟨_,show _=_ from rfl⟩
 rw[c.out];have a:=c.out;unfold Cy at a;unfold M4;by_cases f:i<bs.length
 ·have h:decide ((i:Int)<(bs.length:Int))=true:=Ax
  have j:(i:Int)<(bs.length:Int):=J
  rw[CH f,GS]at a;cases b:decide ((i:Int)<l)
  ·rw[b]at a;subst a;have k:=of_decide_eq_false b;go_enter func68,ntmps68;go_wp2;go_ret;exact⟨Z,BN⟩
  rw[b]at a;subst a;have k:=CD b;go_enter func68,ntmps68;go_wp2;go_ret;exact⟨Z,BN⟩
 have h:decide ((i:Int)<(bs.length:Int))=false:=Ax
 have j:¬(i:Int)<(bs.length:Int):=J
 rw[CO f,Qk]at a;subst a;go_enter func68,ntmps68;go_wp2;go_ret;exact⟨Z,BN⟩
def bx:(prog.info? 76).map (·.size)=U 2:=M
def RS(V:O)(B s:Nat)(b:V.heap.size=B)(cs:A3)(c:cs.size=2)(a:A3)(d:a.getD s undef=A8 (U ⟨B,0,Y⟩)){fn:Func}(h:fn.results=#[.cell s 76]):(results fn a).run X (V.alloc (E cs 76))=.ok (.agg cs) (V.alloc (E cs 76)) :=
 LF h a _ B 76 cs (0,0) _ d (by rw[<-b];exact BI _ _) underlying76 Z (by rw[c];exact bx)
def RT(W:O)(o a:Obj):A0 W ((W.alloc o).alloc a):=(BN).alloc Az _
def N6(W:O)(bs:A1)(fm d l:Int)(i:Nat)(f:Int):Am X 47 #[M4 bs fm d l,I K i,I K f] W λe m=>e=Af (bw (CS bs l i f))/\A0 W m:=by
 have p:=M5 bs;obtain⟨R,h⟩:∃R,Hid (CS bs l i f=R):=⟨_,show _=_ from rfl⟩
 rw[h.out];have a:=h.out;unfold CS at a;unfold M4;by_cases b:l<=(i:Int)
 ·by_cases g:i<bs.length
  ·rw[BA ⟨b,g⟩]at a;subst a;have j:decide (l<=(i:Int))=true:=Bj
   have n:(i:Int)<(bs.length:Int):=J
   have o:decide ((i:Int)<(bs.length:Int))=true:=Ax
   go_enter func47,ntmps47;go_wp2;exact Cc (RS _ _ _ Az _ Z _ Z results47) Z ⟨Z,RT _ _ _⟩
  rw[Bz (λc=>g c.2),BA J]at a;subst a;have j:decide (l<=(i:Int))=true:=Bj
  have n:¬(i:Int)<(bs.length:Int):=J
  have o:decide ((i:Int)<(bs.length:Int))=false:=Ax
  have k:(bs.length:Int)<=(i:Int):=J
  go_enter func47,ntmps47;go_wp2;exact Cc (RS _ _ _ Az _ Z _ Z results47) Z ⟨Z,RT _ _ _⟩
 have j:decide (l<=(i:Int))=false:=Bj
 by_cases g:i<bs.length
 ·rw[Bz (λc=>b c.1),Bz J]at a;subst a;have k:¬(bs.length:Int)<=(i:Int):=J
  go_enter func47,ntmps47;go_wp2;exact Cc (RS _ _ _ Az _ Z _ Z results47) Z ⟨Z,RT _ _ _⟩
 rw[Bz (λc=>b c.1),BA J]at a;subst a;have k:(bs.length:Int)<=(i:Int):=J
 go_enter func47,ntmps47;go_wp2;exact Cc (RS _ _ _ Az _ Z _ Z results47) Z ⟨Z,RT _ _ _⟩
def sd(W:O)(c:UInt8):Am X 69 #[I Ah c.toNat] W λe j=>e=Af (Ac (GW c))/\j=W:=by
 obtain⟨R,i⟩:∃R,Hid (GW c=R):=⟨_,show _=_ from rfl⟩
 rw[i.out];have a:=i.out;unfold GW at a;have k:((c.toNat:Int)==32)=(c.toNat==32):=by cases h:(c.toNat==32)with|true=>simp at h;simp[h]|false=>simp at h;simp;omega
 have l:((c.toNat:Int)==9)=(c.toNat==9):=by cases h:(c.toNat==9)with|true=>simp at h;simp[h]|false=>simp at h;simp;omega
 have m:((c.toNat:Int)==10)=(c.toNat==10):=by cases h:(c.toNat==10)with|true=>simp at h;simp[h]|false=>simp at h;simp;omega
 have n:((c.toNat:Int)==13)=(c.toNat==13):=by cases h:(c.toNat==13)with|true=>simp at h;simp[h]|false=>simp at h;simp;omega
 cases b:(c.toNat==32)<;>cases d:(c.toNat==9)<;>cases f:(c.toNat==10)<;>cases g:(c.toNat==13)<;>rw[b,d,f,g]at a<;>rw[b]at k<;>rw[d]at l<;>rw[f]at m<;>rw[g]at n<;>clear b d f g
 all_goals have a:_=R:=a
 all_goals subst a
 all_goals go_enter func69,ntmps69
 all_goals go_wp2
 all_goals go_ret
 all_goals exact⟨rfl,rfl⟩
end
end Go.Proofs.YtnlnjkggkbbdhaaGreatDoor
