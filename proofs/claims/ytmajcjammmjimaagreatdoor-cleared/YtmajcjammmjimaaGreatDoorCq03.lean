import Derived.RangeFuncRecord
import Derived.BigCall
import Derived.Maps.AppendAt
import Derived.Deep.OwnRows
import Derived.RangeFuncBox
import Derived.Test.YtmajcjammmjimaaGreatDoorCq00
set_option maxRecDepth 100000
set_option maxHeartbeats 8000000
set_option linter.all false
namespace Go.Proofs.YtmajcjammmjimaaGreatDoor
open Go.Proofs.Tryz
variable{N b base n:Nat}{V W W' W0:World}{c:UInt8}{bs ys:List UInt8}{ia:Option Addr}{u v v':Value}{xs:List Value}
section
open Go.RowKit
structure Src where
 ia:Option Addr
 bs:List UInt8
 cap:Nat
 depth:Int
 lim:Int
 pos:Nat
 within:Nat
def Src.arr(s:Src):Array Value:=#[.slice s.ia s.bs.length s.cap,.int .i64 s.depth,.int .i64 s.lim,.int .i64 s.pos,.int .i64 s.within]
structure qad(W:World)(b:Nat)(s:Src):Prop where
 row:W.heap[b]?=some (.cells s.arr 112)
 inp:∀i (h:i<s.bs.length),∃g off,s.ia=some ⟨g,off,none⟩/\g≠b/\W.cell? ⟨g,off+i,none⟩=some (.int .u8 (s.bs[i]'h).toNat)
 len:s.bs.length<=maxLen
 le:s.pos<=s.bs.length
structure But(b:Nat)(W W':World):Prop where
 os:W'.os=W.os
 tape:W'.tape=W.tape
 output:W'.output=W.output
 size:W.heap.size<=W'.heap.size
 block:∀k,k<W.heap.size->k≠b->W'.heap[k]?=W.heap[k]?
theorem But.refl(b:Nat)(W:World):But b W W:=⟨rfl,rfl,rfl,kaf _,λ_ _ _=>rfl⟩
theorem But.trans{A B C:World}(h:But b A B)(k:But b B C):But b A C :=
 ⟨k.os.trans h.os,k.tape.trans h.tape,k.output.trans h.output,kaj h.size k.size,λi c a=>(k.block i (by have:=h.size;omega) a).trans (h.block i c a)⟩
theorem But.of_below(h:Below W.heap.size W W'):But b W W':=⟨h.os,h.tape,h.output,h.size,λk a _=>h.block k a⟩
theorem qad.below{s:Src}(h:qad W b s)(c:Below W.heap.size W W'):qad W' b s :=
 ⟨(c.block _ (ltA h.row)).trans h.row,λi f=>by
  obtain⟨g,off,d,e,a⟩:=h.inp i f;exact⟨g,off,d,e,(c.cell (p:=⟨g,off+i,none⟩) (kaI a)).trans a⟩,h.len,h.le⟩
def qdB(e p:Int):Value:=.iface 75 (.agg #[.int .i64 e,.int .i64 p])
def qan(e p:Int)(en:Ending):Prop:=en=.panicked [{v:=qdB e p,recovered:=false}]
theorem qao(W:World)(n:Nat):Below W.heap.size W (W.drewN n):=⟨rfl,rfl,rfl,kaf _,λ_ _=>rfl⟩
theorem qgu(W:World)(b:Nat)(s:Src)(h:qad W b s)(c:s.pos=s.bs.length):Calls prog 187 #[.pointer (some ⟨b,0,none⟩)] W λe a=>e=.returned (.bool false)/\∃n,a=W.drewN n:=by
 have f:W.cell? ⟨b,0,none⟩=some (.slice s.ia s.bs.length s.cap):=qaa h.row 0;have g:W.cell? ⟨b,3,none⟩=some (.int .i64 s.pos):=qaa h.row 3;have d:(s.pos:Int)=s.bs.length:=by omega
 go_enter func187,ntmps187;go_wp2
 go_region
 go_wp2;go_ret;exact⟨rfl,1,rfl⟩
theorem qeJ(W:World)(b:Nat)(s:Src)(h:qad W b s)(d:s.pos<s.bs.length)(c:(s.pos:Int)=s.lim):Calls prog 187 #[.pointer (some ⟨b,0,none⟩)] W λe a=>qan 8 s.pos e/\∃n,a=W.drewN n:=by
 have g:W.cell? ⟨b,0,none⟩=some (.slice s.ia s.bs.length s.cap):=qaa h.row 0;have i:W.cell? ⟨b,2,none⟩=some (.int .i64 s.lim):=qaa h.row 2;have j:W.cell? ⟨b,3,none⟩=some (.int .i64 s.pos):=qaa h.row 3;have f:¬(s.pos:Int)=s.bs.length:=by omega
 go_enter func187,ntmps187;go_wp2
 go_region
 go_wp2
 go_region
 go_wp2;exact⟨rfl,by rw[c];rfl,2,rfl⟩
theorem qeS(W:World)(b:Nat)(s:Src)(h:qad W b s)(c:s.pos<s.bs.length)(f:¬(s.pos:Int)=s.lim):Calls prog 187 #[.pointer (some ⟨b,0,none⟩)] W λe a=>e=.returned (.bool true)/\∃n,a=W.drewN n:=by
 have g:W.cell? ⟨b,0,none⟩=some (.slice s.ia s.bs.length s.cap):=qaa h.row 0;have i:W.cell? ⟨b,2,none⟩=some (.int .i64 s.lim):=qaa h.row 2;have j:W.cell? ⟨b,3,none⟩=some (.int .i64 s.pos):=qaa h.row 3;have d:¬(s.pos:Int)=s.bs.length:=by omega
 go_enter func187,ntmps187;go_wp2
 go_region
 go_wp2
 go_region
 go_wp2;go_ret;exact⟨rfl,2,rfl⟩
def qx9(s:Src):Prop:=s.pos=s.bs.length
def qxF(s:Src):Prop:=s.pos<s.bs.length/\(s.pos:Int)=s.lim
def qgm(s:Src)(c:UInt8):Prop:=s.bs[s.pos]?=some c/\¬(s.pos:Int)=s.lim
theorem qaT{s:Src}(h:qad W b s):qx9 s\/qxF s\/∃c,qgm s c:=by
 have:=h.le;by_cases d:s.pos=s.bs.length
 ·exact .inl d
 by_cases a:(s.pos:Int)=s.lim
 ·exact .inr (.inl ⟨by omega,a⟩)
 exact .inr (.inr ⟨s.bs[s.pos]'(by omega),by rw[kab (by omega)],a⟩)
theorem qgm.lt{s:Src}(h:qgm s c):s.pos<s.bs.length:=ltL h.1
theorem qgm.cell{s:Src}(h:qad W b s)(d:qgm s c):∃g off,s.ia=some ⟨g,off,none⟩/\g≠b/\W.cell? ⟨g,off+s.pos,none⟩=some (.int .u8 c.toNat):=by
 obtain⟨g,off,e,f,a⟩:=h.inp s.pos d.lt;have:=(kbw.1 d.1).2;rw[this]at a;exact⟨g,off,e,f,a⟩
def Src.next(s:Src):Src:={s with pos:=s.pos+1}
theorem qs9{s:Src}(h:qad W b s)(m:s.pos<s.bs.length)(n:Nat):qad ((W.drewN n).setCell ⟨b,3,none⟩ (.int .i64 ((s.pos:Int)+1))) b s.next/\But b W ((W.drewN n).setCell ⟨b,3,none⟩ (.int .i64 ((s.pos:Int)+1))):=by
 have j:(W.drewN n).heap[b]?=some (.cells s.arr 112):=h.row;have o:=ltA h.row;refine⟨⟨?_,λi e=>?_,h.len,?_⟩,⟨rfl,rfl,rfl,by simp[World.setCell,World.drewN],λk l f=>?_⟩⟩
 ·rw[kaO _ _ _ _ _ _ j];rfl
 ·obtain⟨g,off,c,a,d⟩:=h.inp i e;refine⟨g,off,c,a,?_⟩;have:((W.drewN n).setCell ⟨b,3,none⟩ (.int .i64 ((s.pos:Int)+1))).heap[g]?=W.heap[g]?:=kat (W.drewN n) _ _ _ (by simpa using a);exact(kaN (w:=W) this).trans d
 ·show s.pos+1<=s.bs.length;omega
 exact kat (W.drewN n) _ _ _ (by simpa using f)
theorem qb0(W:World)(b:Nat)(s:Src)(h:qad W b s)(d:qx9 s):Calls prog 188 #[.pointer (some ⟨b,0,none⟩)] W λe a=>qan 9 s.pos e/\Below W.heap.size W a:=by
 have c:=qgu W b s h d;have f:W.cell? ⟨b,3,none⟩=some (.int .i64 s.pos):=qaa h.row 3;go_enter func188,ntmps188
 go_wp2_with(first|(go_at_call 187;refine c.mono ?_;rintro e g ⟨rfl,n,rfl⟩))
 exact⟨rfl,rfl,qao _ _⟩
theorem qbb(W:World)(b:Nat)(s:Src)(h:qad W b s)(a:qxF s):Calls prog 188 #[.pointer (some ⟨b,0,none⟩)] W λe c=>qan 8 s.pos e/\Below W.heap.size W c:=by
 have d:=qeJ W b s h a.1 a.2;go_enter func188,ntmps188
 go_wp2_with(first|(go_at_call 187;refine d.mono ?_;rintro e f ⟨rfl,n,rfl⟩))
 exact⟨rfl,rfl,qao _ _⟩
theorem qaw(W:World)(b:Nat)(s:Src)(c:UInt8)(h:qad W b s)(a:qgm s c):Calls prog 188 #[.pointer (some ⟨b,0,none⟩)] W λe f=>e=.returned (.int .u8 c.toNat)/\qad f b s.next/\But b W f:=by
 have l:=qeS W b s h a.lt a.2;have j:=qab (qs9 h a.lt);have y:=a.lt;have r:=h.len;unfold maxLen at r;obtain⟨g,off,m,o,p⟩:=a.cell h;have z:W.cell? ⟨b,3,none⟩=some (.int .i64 s.pos):=qaa h.row 3;have x:=kaK W b 3 _ _ h.row;go_enter func188,ntmps188
 go_wp2_with(first|(go_at_call 187;refine l.mono ?_;rintro e A ⟨rfl,n,rfl⟩))
 obtain⟨d,q⟩:=j.out n;have k:=qab d;have i:=qab q;have t:((W.drewN n).setCell ⟨b,3,none⟩ (.int .i64 ((s.pos:Int)+1))).cell? ⟨b,0,none⟩=some (.slice (some ⟨g,off,none⟩) s.bs.length s.cap):=by rw[<-m];exact qaa d.row 0
 have u:((W.drewN n).setCell ⟨b,3,none⟩ (.int .i64 ((s.pos:Int)+1))).cell? ⟨b,3,none⟩=some (.int .i64 ((s.pos:Int)+1)):=qaa d.row 3;have v:((W.drewN n).setCell ⟨b,3,none⟩ (.int .i64 ((s.pos:Int)+1))).cell? ⟨g,off+s.pos,none⟩=some (.int .u8 c.toNat):=by
  have:((W.drewN n).setCell ⟨b,3,none⟩ (.int .i64 ((s.pos:Int)+1))).heap[g]?=W.heap[g]?:=kat (W.drewN n) _ _ _ (by simpa using o);exact(kaN (w:=W) this).trans p
 generalize(W.drewN n).setCell ⟨b,3,none⟩ (.int .i64 ((s.pos:Int)+1))=V at *
 go_region
 go_wp2;go_ret;exact⟨rfl,k.out.below (kam _ _).drew,i.out.trans (But.of_below (kam _ _).drew)⟩

theorem qad.drewN{s:Src}(h:qad W b s)(n:Nat):qad (W.drewN n) b s:=h.below (qao W n)
theorem qmG(W:World)(b:Nat)(s:Src)(x:Int)(h:qad W b s)(d:qx9 s):Calls prog 198 #[.pointer (some ⟨b,0,none⟩),.int .u8 x] W λe a=>e=.returned (.bool false)/\∃n,a=W.drewN n:=by
 have c:∀n,Calls prog 187 #[.pointer (some ⟨b,0,none⟩)] (W.drewN n) λe a=>e=.returned (.bool false)/\∃m,a=(W.drewN n).drewN m:=λn=>qgu _ b s (h.drewN n) d;go_enter func198,ntmps198;go_wp2
 go_quiet (first|(go_at_call 187;exact(c _).quiet_of))
 go_wp2;go_ret;exact⟨rfl,nq,rfl⟩
theorem qlk(W:World)(b:Nat)(s:Src)(c:UInt8)(x:Int)(h:qad W b s)(a:qgm s c):Calls prog 198 #[.pointer (some ⟨b,0,none⟩),.int .u8 x] W λe d=>e=.returned (.bool ((c.toNat:Int)==x))/\∃n,d=W.drewN n:=by
 have f:∀n,Calls prog 187 #[.pointer (some ⟨b,0,none⟩)] (W.drewN n) λe d=>e=.returned (.bool true)/\∃m,d=(W.drewN n).drewN m:=λn=>qeS _ b s (h.drewN n) a.lt a.2;obtain⟨g,off,i,l,o⟩:=a.cell h;have j:W.cell? ⟨b,0,none⟩=some (.slice (some ⟨g,off,none⟩) s.bs.length s.cap):=by rw[<-i];exact qaa h.row 0
 have k:W.cell? ⟨b,3,none⟩=some (.int .i64 s.pos):=qaa h.row 3;have p:=a.lt;have q:(s.pos:Int)<s.bs.length:=by omega
 go_enter func198,ntmps198;go_wp2
 go_quiet (first|(go_at_call 187;exact(f _).quiet_of))
 go_wp2;go_ret;exact⟨rfl,nq,rfl⟩
theorem qdp(W:World)(b:Nat)(s:Src)(x:Int)(h:qad W b s)(c:qxF s):Calls prog 198 #[.pointer (some ⟨b,0,none⟩),.int .u8 x] W λe a=>qan 8 s.pos e/\Below W.heap.size W a:=by
 have d:Calls prog 187 #[.pointer (some ⟨b,0,none⟩)] W.drew λe a=>qan 8 s.pos e/\∃m,a=W.drew.drewN m:=qeJ _ b s (h.drewN 1) c.1 c.2;go_enter func198,ntmps198;go_wp2;refine kaM (S:=λ_=>True) (by kernel_rfl) ?_;refine kaD (i:=0) (v:=.pointer (some ⟨b,0,none⟩)) rfl (by kernel_rfl) (by kernel_rfl) (by kernel_rfl) (λ_ _ _ h=>h) (.inl ⟨rfl,λW g=>rfl⟩) trivial ?_;refine rdq 1 (λK f=>?_);go_simp;refine d.mono ?_;rintro e j ⟨rfl,n,rfl⟩;exact⟨rfl,rfl,(kam _ _).drew.trans (qao W.drew n)⟩
theorem qbt(c:UInt8)(w:World):Calls prog 196 #[.int .u8 c.toNat] w λe a=>e=.returned (.bool (decide (48<=(c.toNat:Int)/\(c.toNat:Int)<=57)))/\a=w:=by
 by_cases b:(48:Int)<=c.toNat
 ·by_cases d:(c.toNat:Int)<=57
  ·go_enter func196,ntmps196;go_wp2;go_ret;exact⟨by rw[kax (by omega)];rfl,rfl⟩
  go_enter func196,ntmps196;go_wp2;go_ret;exact⟨by rw[kaz (by omega)];rfl,rfl⟩
 go_enter func196,ntmps196;go_wp2;go_ret;exact⟨by rw[kaz (by omega)];rfl,rfl⟩
theorem qav(W:World)(b:Nat)(s:Src)(e:Int)(h:qad W b s):Calls prog 189 #[.pointer (some ⟨b,0,none⟩),.int .i64 e] W λc a=>qan e ((s.pos:Int)-1) c/\a=W:=by
 have f:W.cell? ⟨b,3,none⟩=some (.int .i64 s.pos):=qaa h.row 3;have d:=h.len;have g:=h.le;unfold maxLen at d;go_enter func189,ntmps189;go_wp2;exact⟨rfl,rfl,rfl⟩
theorem qgb(W:World)(b:Nat)(s:Src)(h:qad W b s)(d:qx9 s):Calls prog 213 #[.pointer (some ⟨b,0,none⟩)] W λe a=>e=.returned (.bool false)/\∃n,a=W.drewN n:=by
 have c:∀n,Calls prog 187 #[.pointer (some ⟨b,0,none⟩)] (W.drewN n) λe a=>e=.returned (.bool false)/\∃m,a=(W.drewN n).drewN m:=λn=>qgu _ b s (h.drewN n) d;go_enter func213,ntmps213;go_wp2
 go_quiet (first|(go_at_call 187;exact(c _).quiet_of))
 go_wp2;go_ret;exact⟨rfl,nq,rfl⟩
theorem qf2(W:World)(b:Nat)(s:Src)(c:UInt8)(h:qad W b s)(f:qgm s c):Calls prog 213 #[.pointer (some ⟨b,0,none⟩)] W λe a=>e=.returned (.bool (decide (48<=(c.toNat:Int)/\(c.toNat:Int)<=57)))/\∃n,a=W.drewN n:=by
 have j:∀n,Calls prog 187 #[.pointer (some ⟨b,0,none⟩)] (W.drewN n) λe a=>e=.returned (.bool true)/\∃m,a=(W.drewN n).drewN m:=λn=>qeS _ b s (h.drewN n) f.lt f.2;have i:∀n,Calls prog 196 #[.int .u8 c.toNat] (W.drewN n) λe a=>e=.returned (.bool (decide (48<=(c.toNat:Int)/\(c.toNat:Int)<=57)))/\a=W.drewN n:=λn=>qbt c _;obtain⟨g,off,k,p,q⟩:=f.cell h;have l:W.cell? ⟨b,0,none⟩=some (.slice (some ⟨g,off,none⟩) s.bs.length s.cap):=by rw[<-k];exact qaa h.row 0
 have o:W.cell? ⟨b,3,none⟩=some (.int .i64 s.pos):=qaa h.row 3;have r:=f.lt;have t:(s.pos:Int)<s.bs.length:=by omega
 generalize decide (48<=(c.toNat:Int)/\(c.toNat:Int)<=57)=d at *;go_enter func213,ntmps213;go_wp2
 go_quiet (first|(go_at_call 187;exact(j _).quiet_of)|(go_at_call 196;exact(i _).quiet_of_same))
 go_wp2;go_ret;exact⟨rfl,nq,rfl⟩
theorem qfv(W:World)(b:Nat)(s:Src)(h:qad W b s)(c:qxF s):Calls prog 213 #[.pointer (some ⟨b,0,none⟩)] W λe a=>qan 8 s.pos e/\Below W.heap.size W a:=by
 have d:Calls prog 187 #[.pointer (some ⟨b,0,none⟩)] W.drew λe a=>qan 8 s.pos e/\∃m,a=W.drew.drewN m:=qeJ _ b s (h.drewN 1) c.1 c.2;go_enter func213,ntmps213;go_wp2;refine kaM (S:=λ_=>True) (by kernel_rfl) ?_;refine kaD (i:=0) (v:=.pointer (some ⟨b,0,none⟩)) rfl (by kernel_rfl) (by kernel_rfl) (by kernel_rfl) (λ_ _ _ h=>h) (.inl ⟨rfl,λW g=>rfl⟩) trivial ?_;refine rdq 1 (λK f=>?_);go_simp;refine d.mono ?_;rintro e j ⟨rfl,n,rfl⟩;exact⟨rfl,rfl,(kam _ _).drew.trans (qao W.drew n)⟩

def qbO(c:UInt8):Bool:=decide (48<=(c.toNat:Int)/\(c.toNat:Int)<=57)
def qeA(bs:List UInt8)(lim:Int)(most:Nat)(z:Bool):Nat->Nat->Nat->Except (Int×Int) (Nat×Nat)
 |0,p,num=>.ok (num,p)
 |g+1,p,num=>match bs[p]? with
  |none=>.ok (num,p)
  |some c=>if(p:Int)=lim then .error (8,p)else
   if qbO c=true then(if z=true then .error (9,p)else if(most-(c.toNat-48))/10<num then .error (10,p)else qeA bs lim most z g (p+1) (num*10+(c.toNat-48)))
   else if c.toNat=46\/c.toNat=101\/c.toNat=69 then .error (10,p)else .ok (num,p)
def qbV{α:Type}(W:World)(b:Nat)(s:Src)(val:α->Value)(r:Except (Int×Int) (α×Nat))(e:Ending)(W':World):Prop :=
 But b W W'/\match r with
 |.ok (x,p)=>e=.returned (val x)/\qad W' b {s with pos:=p}
 |.error (en,pl)=>qan en pl e
structure qpe(W0:World)(b N:Nat)(s:Src)(W:World):Prop where
 src:qad W b s
 but:But b W0 W
 box:W.heap[N]?=some (.cells #[.pointer (some ⟨b,0,none⟩)] 114)
 ne:N≠b
theorem qpe.step{s s':Src}(h:qpe W0 b N s W)(c:qad W' b s')(a:But b W W'):qpe W0 b N s' W' :=
 ⟨c,h.but.trans a,(a.block _ (ltA h.box) h.ne).trans h.box,h.ne⟩
theorem qpe.cell{s:Src}(h:qpe W0 b N s W):W.cell? ⟨N,0,none⟩=some (.pointer (some ⟨b,0,none⟩)):=qaa h.box 0
theorem rdK{s s':Src}(h:Hid (qpe W0 b N s W))(c:qad W' b s')(a:But b W W'):Hid (qpe W0 b N s' W')/\W'.cell? ⟨N,0,none⟩=some (.pointer (some ⟨b,0,none⟩)):=⟨h.out.step c a,(h.out.step c a).cell⟩
theorem qaX{s:Src}(h:qad W b s):qpe W b W.heap.size s (W.alloc (.cells #[.pointer (some ⟨b,0,none⟩)] 114)) :=
 ⟨h.below bwA,But.of_below bwA,qac _ _,by have:=ltA h.row;omega⟩
theorem qjj{s:Src}(x:Int)(h:qad W b s)(d:qx9 s):Calls prog 198 #[.pointer (some ⟨b,0,none⟩),.int .u8 x] W λe a=>e=.returned (.bool false)/\qad a b s/\But b W a :=
 (qmG W b s x h d).mono λ_ _ ⟨f,n,c⟩=>⟨f,c▸h.drewN n,c▸But.of_below (qao W n)⟩
theorem qdK{s:Src}(x:Int)(h:qad W b s)(f:qgm s c):Calls prog 198 #[.pointer (some ⟨b,0,none⟩),.int .u8 x] W λe a=>e=.returned (.bool ((c.toNat:Int)==x))/\qad a b s/\But b W a :=
 (qlk W b s c x h f).mono λ_ _ ⟨g,n,d⟩=>⟨g,d▸h.drewN n,d▸But.of_below (qao W n)⟩
theorem qwk{s:Src}(h:qad W b s)(d:qx9 s):Calls prog 213 #[.pointer (some ⟨b,0,none⟩)] W λe a=>e=.returned (.bool false)/\qad a b s/\But b W a :=
 (qgb W b s h d).mono λ_ _ ⟨f,n,c⟩=>⟨f,c▸h.drewN n,c▸But.of_below (qao W n)⟩
theorem qsX{s:Src}(h:qad W b s)(f:qgm s c):Calls prog 213 #[.pointer (some ⟨b,0,none⟩)] W λe a=>e=.returned (.bool (qbO c))/\qad a b s/\But b W a :=
 (qf2 W b s c h f).mono λ_ _ ⟨g,n,d⟩=>⟨g,d▸h.drewN n,d▸But.of_below (qao W n)⟩
theorem qdZ(W:World)(b:Nat)(s:Src)(first:UInt8)(o:Nat)(h:qad W b s)(hm:o=9223372036854775807\/o=9223372036854775808)(G:48<=first.toNat/\first.toNat<=57):Calls prog 207 #[.agg #[.pointer (some ⟨b,0,none⟩)],.int .u8 first.toNat,.int .u64 o] W
   (qbV W b s (λx:Nat=>.int .u64 x) (qeA s.bs s.lim o (first.toNat==48) (s.bs.length+1-s.pos) s.pos (first.toNat-48))):=by
 have J:=qab (qaX h);have Y:=h.le;have Z:=h.len;unfold maxLen at Z;have ad:=G.1;have ae:=G.2;obtain⟨R,j⟩:∃R,Hid (qeA s.bs s.lim o (first.toNat==48) (s.bs.length+1-s.pos) s.pos (first.toNat-48)=R):=⟨_,show _=_ from rfl⟩
 rw[j.out];clear h G;go_enter func207,ntmps207;go_wp2;generalize W.alloc (.cells #[.pointer (some ⟨b,0,none⟩)] 114)=W0 at *
 go_loopg[7,8] (s.bs.length+1-s.pos) (λg x _ wr=>∃p q:Nat,x=.int .u64 q/\Hid (p+g=s.bs.length+1)/\p<=s.bs.length/\q<=o/\Hid (qpe W b W.heap.size {s with pos:=p} wr)/\Hid (qeA s.bs s.lim o (first.toNat==48) g p q=R))
 case atStart=>exact⟨s.pos,first.toNat-48,by go_num,by show _=_;omega,Y,by omega,J,j⟩
 case round =>
  clear J j;obtain⟨p,q,rfl,N,hp,af,a,j⟩:=hrel;have i:=a.out.cell;obtain⟨g,rfl⟩:∃g,gk=g+1:=⟨gk-1,by have:=N.out;omega⟩
  rcases qaT a.out.src with k|k|⟨c,k⟩
  ·have l:Hid (R=.ok (q,p)):=by
    show _=_;rw[<-j.out,qeA,kaC (by have:p=s.bs.length:=k;omega)]
   have r:=qwk a.out.src k;have m:=λ(x:Int) (V:World) (y:qad V b {s with pos:=p})=>qjj x y k;clear k j;have A:True:=trivial;have B:True:=trivial
   go_wp2_with(first
    |(go_at_call 213;refine r.mono ?_;clear r i;rintro e P ⟨rfl,f,d⟩;obtain⟨a,i⟩:=rdK a f d;clear f d)
    |(go_at_call 198;clear A;refine(m 46 _ a.out.src).mono ?_;clear i;rintro e Q ⟨rfl,f,d⟩;obtain⟨a,i⟩:=rdK a f d;clear f d)
    |(go_at_call 198;clear B;refine(m 101 _ a.out.src).mono ?_;clear i;rintro e S ⟨rfl,f,d⟩;obtain⟨a,i⟩:=rdK a f d;clear f d)
    |(go_at_call 198;refine(m 69 _ a.out.src).mono ?_;clear i;rintro e T ⟨rfl,f,d⟩;obtain⟨a,i⟩:=rdK a f d;clear f d))
   go_ret;rw[l.out];exact⟨a.out.but,rfl,a.out.src⟩
  ·have l:Hid (R=.error (8,(p:Int))):=by
    show _=_;have U:(p:Int)=s.lim:=k.2;have X:p<s.bs.length:=k.1;rw[<-j.out,qeA,kab X];simp[U]
   have r:=qfv wr b {s with pos:=p} a.out.src k;clear k j
   go_wp2_with(first
    |(go_at_call 213;refine r.mono ?_;clear r i;rintro e P ⟨rfl,d⟩))
   rw[l.out];exact⟨rfl,a.out.but.trans (But.of_below d),rfl⟩
  have L:s.bs[p]?=some c:=k.1;have M:¬(p:Int)=s.lim:=k.2;have r:=qsX a.out.src k;have m:=λ(x:Int) (V:World) (y:qad V b {s with pos:=p})=>qdK x y k;have w:∀V,qad V b {s with pos:=p}->Calls prog 188 #[.pointer (some ⟨b,0,none⟩)] V λe K=>e=.returned (.int .u8 c.toNat)/\qad K b {s with pos:=p+1}/\But b V K:=λV y=>qaw V b {s with pos:=p} c y k;have aa:p<s.bs.length:=k.lt;rw[qeA,L]at j;simp only[]at j;rw[kac M]at j;clear k L M
  go_wp2_with fail
  refine r.mono ?_;clear r i;rintro e P ⟨rfl,f,d⟩;obtain⟨a,i⟩:=rdK a f d;clear f d;cases z:qbO c
  ·rw[z]at j;rw[kac (by simp)]at j;clear z;have A:True:=trivial;have B:True:=trivial;by_cases t:c.toNat=46\/c.toNat=101\/c.toNat=69
   ·have l:Hid (R=.error (10,(p:Int))):=by show _=_;rw[<-j.out,kag t]
    clear j;rcases t with t|t|t
    all_goals
     first|have D:((c.toNat:Int)==46)=true:=(by simp;omega)|have D:=nec (c:=c) 46 (by omega)
     first|have C:((c.toNat:Int)==101)=true:=(by simp;omega)|have C:=nec (c:=c) 101 (by omega)
     first|have E:((c.toNat:Int)==69)=true:=(by simp;omega)|have E:=nec (c:=c) 69 (by omega)
     clear t
     go_wp2_with(first
      |(go_at_call 198;clear A;refine(m 46 _ a.out.src).mono ?_;clear i;rintro e Q ⟨rfl,f,d⟩;rw[D];obtain⟨a,i⟩:=rdK a f d;clear f d)
      |(go_at_call 198;clear B;refine(m 101 _ a.out.src).mono ?_;clear i;rintro e S ⟨rfl,f,d⟩;rw[C];obtain⟨a,i⟩:=rdK a f d;clear f d)
      |(go_at_call 198;refine(m 69 _ a.out.src).mono ?_;clear i;rintro e T ⟨rfl,f,d⟩;rw[E];obtain⟨a,i⟩:=rdK a f d;clear f d)
      |(go_at_call 188;refine(w _ a.out.src).mono ?_;clear i;rintro e v ⟨rfl,f,d⟩;obtain⟨a,i⟩:=rdK a f d;clear f d;have n:=λ(u:Int)=>qav v b {s with pos:=p+1} u a.out.src)
      |(go_at_call 189;refine(n _).mono ?_;clear n i;rintro e H ⟨hF,rfl⟩;obtain rfl:=hF))
     rw[l.out];exact⟨rfl,a.out.but,by show qan _ _ _;unfold qan qdB;simp⟩
   have l:Hid (R=.ok (q,p)):=by show _=_;rw[<-j.out,kac t]
   clear j w;have D:=nec (c:=c) 46 (by omega);have C:=nec (c:=c) 101 (by omega);have E:=nec (c:=c) 69 (by omega);clear t
   go_wp2_with(first
    |(go_at_call 198;clear A;refine(m 46 _ a.out.src).mono ?_;clear i;rintro e Q ⟨rfl,f,d⟩;rw[D];obtain⟨a,i⟩:=rdK a f d;clear f d)
    |(go_at_call 198;clear B;refine(m 101 _ a.out.src).mono ?_;clear i;rintro e S ⟨rfl,f,d⟩;rw[C];obtain⟨a,i⟩:=rdK a f d;clear f d)
    |(go_at_call 198;refine(m 69 _ a.out.src).mono ?_;clear i;rintro e T ⟨rfl,f,d⟩;rw[E];obtain⟨a,i⟩:=rdK a f d;clear f d))
   go_ret;rw[l.out];exact⟨a.out.but,rfl,a.out.src⟩
  rw[z]at j;rw[kag rfl]at j;have F:=kaq z;have ab:=F.1;have ac:=F.2;clear z F;by_cases hz:(first.toNat:Int)=48
  ·have l:Hid (R=.error (9,(p:Int))):=by
    show _=_;rw[<-j.out,kag (by simp;omega)]
   clear j m
   go_wp2_with(first
    |(go_at_call 188;refine(w _ a.out.src).mono ?_;clear i;rintro e v ⟨rfl,f,d⟩;obtain⟨a,i⟩:=rdK a f d;clear f d;have n:=λ(u:Int)=>qav v b {s with pos:=p+1} u a.out.src)
    |(go_at_call 189;refine(n _).mono ?_;clear n i;rintro e H ⟨hF,rfl⟩;obtain rfl:=hF))
   rw[l.out];exact⟨rfl,a.out.but,by show qan _ _ _;unfold qan qdB;simp⟩
  have I:Hid ((if(o-(c.toNat-48))/10<q then Except.error (10,(p:Int))else qeA s.bs s.lim o (first.toNat==48) g (p+1) (q*10+(c.toNat-48)))=R):=by
   have e:=j.out;rw[kac (show¬(first.toNat==48)=true by simp;omega)]at e;exact e
  clear j m;by_cases O:(o-(c.toNat-48))/10<q
  ·have l:Hid (R=.error (10,(p:Int))):=by
    show _=_;rw[<-I.out,kag O]
   go_wp2_with(first
    |(go_at_call 188;refine(w _ a.out.src).mono ?_;clear i;rintro e v ⟨rfl,f,d⟩;obtain⟨a,i⟩:=rdK a f d;clear f d;have n:=λ(u:Int)=>qav v b {s with pos:=p+1} u a.out.src)
    |(go_at_call 189;refine(n _).mono ?_;clear n i;rintro e H ⟨hF,rfl⟩;obtain rfl:=hF))
   rw[l.out];exact⟨rfl,a.out.but,rfl⟩
  have l:Hid (qeA s.bs s.lim o (first.toNat==48) g (p+1) (q*10+(c.toNat-48))=R):=by
   show _=_;rw[<-I.out,kac O]
  go_wp2_with(first
   |(go_at_call 188;refine(w _ a.out.src).mono ?_;clear i;rintro e v ⟨rfl,f,d⟩;obtain⟨a,i⟩:=rdK a f d;clear f d;have n:=λ(u:Int)=>qav v b {s with pos:=p+1} u a.out.src)
   |(go_at_call 189;refine(n _).mono ?_;clear n i;rintro e H ⟨hF,rfl⟩;obtain rfl:=hF))
  go_roundg g
  case measure=>omega
  case rel=>exact⟨p+1,q*10+(c.toNat-48),by go_num,by show _=_;have:=N.out;omega,aa,by omega,a,l⟩

theorem qgH{lim:Int}{most:Nat}{z:Bool}:∀{g p num:Nat} {x q:Nat},num<=most->9<=most->qeA bs lim most z g p num=.ok (x,q)->x<=most
 |0,p,num,x,q,hn,_,h=>by
  unfold qeA at h;cases h;exact hn
 |g+1,p,num,x,q,hn,hm,h=>by
  unfold qeA at h;split at h
  ·cases h;exact hn
  split at h
  ·cases h
  split at h
  ·next hd =>
   split at h
   ·cases h
   split at h
   ·cases h
   next hov =>
   have a:=kaq hd;exact qgH (by omega) hm h
  split at h
  ·cases h
  cases h;exact hn
def qel(s:Src)(first:UInt8):Except (Int×Int) (Int×Nat) :=
 if first.toNat=45 then
  match s.bs[s.pos]? with
  |none=>.error (9,s.pos)
  |some c=>if(s.pos:Int)=s.lim then .error (8,s.pos)else if qbO c=true then
    (match qeA s.bs s.lim 9223372036854775808 (c.toNat==48) (s.bs.length+1-(s.pos+1)) (s.pos+1) (c.toNat-48)with
    |.ok (x,p)=>.ok (-(x:Int),p)
    |.error e=>.error e)
   else .error (9,s.pos)
 else match qeA s.bs s.lim 9223372036854775807 (first.toNat==48) (s.bs.length+1-s.pos) s.pos (first.toNat-48)with
  |.ok (x,p)=>.ok ((x:Int),p)
  |.error e=>.error e
theorem qtI(x:Nat)(h:x<=9223372036854775808):wrap64 (IntKind.u64.wrap (-(x:Int))) = -(x:Int):=by
 by_cases b:x=0
 ·subst b;have a:IntKind.u64.wrap (-((0:Nat):Int))=0:=by
   unfold IntKind.wrap;simp[IntKind.bits,IntKind.signed]
  rw[a];unfold wrap64;omega
 have a:IntKind.u64.wrap (-(x:Int))=18446744073709551616-x:=by
  unfold IntKind.wrap;simp[IntKind.bits,IntKind.signed];omega
 rw[a];unfold wrap64
 first|omega|(unfold IntKind.wrap;simp[IntKind.bits,IntKind.signed];omega)|(split<;>omega)
theorem qh6(W:World)(b:Nat)(s:Src)(first:UInt8)(h:qad W b s)(H:first.toNat=45\/qbO first=true):Calls prog 197 #[.agg #[.pointer (some ⟨b,0,none⟩)],.int .u8 first.toNat] W (qbV W b s (λz:Int=>.int .i64 z) (qel s first)):=by
 have g:=qab (qaX h);obtain⟨R,u⟩:∃R,Hid (qel s first=R):=⟨_,show _=_ from rfl⟩
 rw[u.out];have w:=g.out.cell;by_cases K:(first.toNat:Int)=45
 ·have a:=u.out;unfold qel at a;rw[kag (by omega)]at a;rcases qaT h with j|j|⟨c,j⟩
  ·have f:Hid (R=.error (9,(s.pos:Int))):=by
    show _=_;rw[kaC (by have:s.pos=s.bs.length:=j;omega)]at a;exact a.symm
   have l:=qb0 _ b s g.out.src j;go_enter func197,ntmps197
   go_wp2_with(first
    |(go_at_call 188;refine l.mono ?_;rintro e o ⟨hF,d⟩;obtain rfl:=hF))
   rw[f.out];exact⟨rfl,g.out.but.trans (But.of_below d),rfl⟩
  ·have f:Hid (R=.error (8,(s.pos:Int))):=by
    show _=_;rw[kab j.1]at a;simp only[]at a;rw[kag j.2]at a;exact a.symm
   have l:=qbb _ b s g.out.src j;go_enter func197,ntmps197
   go_wp2_with(first
    |(go_at_call 188;refine l.mono ?_;rintro e o ⟨hF,d⟩;obtain rfl:=hF))
   rw[f.out];exact⟨rfl,g.out.but.trans (But.of_below d),rfl⟩
  rw[j.1]at a;simp only[]at a;rw[kac j.2]at a;have l:=qaw _ b s c g.out.src j;have L:=j.lt;have I:=h.len;unfold maxLen at I;cases n:decide (48<=(c.toNat:Int)/\(c.toNat:Int)<=57)
  ·have f:Hid (R=.error (9,(s.pos:Int))):=by
    show _=_;rw[kac (by unfold qbO;rw[n];simp)]at a;exact a.symm
   go_enter func197,ntmps197
   go_wp2_with(first
    |(go_at_call 188;refine l.mono ?_;rintro e o ⟨rfl,k,d⟩;have p:=qab (g.out.step k d);have i:=p;have w:=i.out.cell)
    |(go_at_call 196;refine(qbt c _).mono ?_;rintro e C ⟨rfl,rfl⟩;rw[n])
    |(go_at_call 189;refine(qav _ b s.next _ i.out.src).mono ?_;rintro e M ⟨hF,rfl⟩;obtain rfl:=hF))
   rw[f.out];exact⟨rfl,i.out.but,by show qan _ _ _;unfold qan qdB Src.next;simp⟩
  have t:=kaq n;have F:=t.1;have G:=t.2;rw[kag (by unfold qbO;exact n)]at a;have r:=λV (E:qad V b s.next)=>qdZ V b s.next c 9223372036854775808 E (.inr rfl) ⟨by omega,by omega⟩
  obtain⟨D,m⟩:∃D,qeA s.bs s.lim 9223372036854775808 (c.toNat==48) (s.bs.length+1-(s.pos+1)) (s.pos+1) (c.toNat-48)=D:=⟨_,rfl⟩
  have A:∀V,qad V b s.next->Calls prog 207 #[.agg #[.pointer (some ⟨b,0,none⟩)],.int .u8 c.toNat,.int .u64 9223372036854775808] V (qbV V b s.next (λx:Nat=>.int .u64 x) D):=by rw[<-m];exact r
  rw[m]at a;rcases D with⟨v,y⟩|⟨x,q⟩
  ·have f:Hid (R=.error (v,y)):=a.symm;go_enter func197,ntmps197
   go_wp2_with(first
    |(go_at_call 188;refine l.mono ?_;rintro e o ⟨rfl,k,d⟩;have p:=qab (g.out.step k d);have i:=p;have w:=i.out.cell)
    |(go_at_call 196;refine(qbt c _).mono ?_;rintro e C ⟨rfl,rfl⟩;rw[n])
    |(go_at_call 207;refine(A _ i.out.src).mono ?_;rintro e J ⟨d,hF⟩;obtain rfl:=hF))
   rw[f.out];exact⟨rfl,i.out.but.trans d,rfl⟩
  have f:Hid (R=.ok (-(x:Int),q)):=a.symm;have B:=qgH (by omega) (by omega) m;go_enter func197,ntmps197
  go_wp2_with(first
   |(go_at_call 188;refine l.mono ?_;rintro e o ⟨rfl,k,d⟩;have p:=qab (g.out.step k d);have i:=p;have w:=i.out.cell)
   |(go_at_call 196;refine(qbt c _).mono ?_;rintro e C ⟨rfl,rfl⟩;rw[n])
   |(go_at_call 207;refine(A _ i.out.src).mono ?_;rintro e J ⟨d,rfl,k⟩))
  go_ret;rw[f.out];exact⟨i.out.but.trans d,congrArg (λz=>Ending.returned (Value.int .i64 z)) (qtI x B),k⟩
 have t:=kaq (H.resolve_left (by omega));have F:=t.1;have G:=t.2;have r:=qdZ (W.alloc (.cells #[.pointer (some ⟨b,0,none⟩)] 114)) b s first 9223372036854775807 g.out.src (.inl rfl) ⟨by omega,by omega⟩
 have a:=u.out;unfold qel at a;rw[kac (by omega)]at a;obtain⟨D,m⟩:∃D,qeA s.bs s.lim 9223372036854775807 (first.toNat==48) (s.bs.length+1-s.pos) s.pos (first.toNat-48)=D:=⟨_,rfl⟩
 rw[m]at r a;rcases D with⟨v,y⟩|⟨x,q⟩
 ·have f:Hid (R=.error (v,y)):=a.symm;go_enter func197,ntmps197
  go_wp2_with(first
   |(go_at_call 207;refine r.mono ?_;rintro e o ⟨d,hF⟩;obtain rfl:=hF))
  rw[f.out];exact⟨rfl,g.out.but.trans d,rfl⟩
 have f:Hid (R=.ok ((x:Int),q)):=a.symm;have B:=qgH (by omega) (by omega) m;go_enter func197,ntmps197
 go_wp2_with(first
  |(go_at_call 207;refine r.mono ?_;rintro e o ⟨d,rfl,k⟩))
 go_ret;rw[f.out];exact⟨g.out.but.trans d,rfl,k⟩

def quM(c:UInt8):Bool:=c.toNat==32||(c.toNat==9||(c.toNat==10||c.toNat==13))
def spF(bs:List UInt8)(lim:Int):Nat->Nat->Except (Int×Int) (Unit×Nat)
 |0,p=>.ok ((),p)
 |g+1,p=>match bs[p]? with
  |none=>.ok ((),p)
  |some c=>if(p:Int)=lim then .error (8,p)else if quM c=true then spF bs lim g (p+1)else .ok ((),p)
theorem qaR(W:World)(b:Nat)(s:Src)(h:qad W b s):Calls prog 191 #[.agg #[.pointer (some ⟨b,0,none⟩)]] W (qbV W b s (λ_:Unit=>.tuple #[]) (spF s.bs s.lim (s.bs.length+1-s.pos) s.pos)):=by
 have B:=qab (qaX h);have N:=h.le;obtain⟨R,j⟩:∃R,Hid (spF s.bs s.lim (s.bs.length+1-s.pos) s.pos=R):=⟨_,show _=_ from rfl⟩
 rw[j.out];clear h;go_enter func191,ntmps191;go_wp2;generalize W.alloc (.cells #[.pointer (some ⟨b,0,none⟩)] 114)=W0 at *
 go_loopg[2] (s.bs.length+1-s.pos) (λg _ wr=>∃p:Nat,Hid (p+g=s.bs.length+1)/\p<=s.bs.length/\Hid (qpe W b W.heap.size {s with pos:=p} wr)/\Hid (spF s.bs s.lim g p=R))
 case atStart=>exact⟨s.pos,by show _=_;omega,N,B,j⟩
 case round =>
  clear B j;obtain⟨p,G,P,a,j⟩:=hrel;have i:=a.out.cell;obtain⟨g,rfl⟩:∃g,gk=g+1:=⟨gk-1,by have:=G.out;omega⟩
  rcases qaT a.out.src with k|k|⟨c,k⟩
  ·have m:Hid (R=.ok ((),p)):=by
    show _=_;rw[<-j.out,spF,kaC (by have:p=s.bs.length:=k;omega)]
   have l:=λ(x:Int) (V:World) (n:qad V b {s with pos:=p})=>qjj x n k;clear k j;have o:True:=trivial;have q:True:=trivial;have r:True:=trivial
   go_wp2_with(first
    |(go_at_call 198;clear o;refine(l 32 _ a.out.src).mono ?_;clear i;rintro e A ⟨rfl,f,d⟩;obtain⟨a,i⟩:=rdK a f d;clear f d)
    |(go_at_call 198;clear q;refine(l 9 _ a.out.src).mono ?_;clear i;rintro e H ⟨rfl,f,d⟩;obtain⟨a,i⟩:=rdK a f d;clear f d)
    |(go_at_call 198;clear r;refine(l 10 _ a.out.src).mono ?_;clear i;rintro e I ⟨rfl,f,d⟩;obtain⟨a,i⟩:=rdK a f d;clear f d)
    |(go_at_call 198;refine(l 13 _ a.out.src).mono ?_;clear i;rintro e J ⟨rfl,f,d⟩;obtain⟨a,i⟩:=rdK a f d;clear f d))
   go_end0;rw[m.out];exact⟨a.out.but,rfl,a.out.src⟩
  ·have m:Hid (R=.error (8,(p:Int))):=by
    show _=_;have L:(p:Int)=s.lim:=k.2;have M:p<s.bs.length:=k.1;rw[<-j.out,spF,kab M];simp[L]
   have D:=qdp wr b {s with pos:=p} 32 a.out.src k;clear k j
   go_wp2_with(first
    |(go_at_call 198;refine D.mono ?_;clear D i;rintro e A ⟨rfl,d⟩))
   rw[m.out];exact⟨rfl,a.out.but.trans (But.of_below d),rfl⟩
  have E:s.bs[p]?=some c:=k.1;have F:¬(p:Int)=s.lim:=k.2;have l:=λ(x:Int) (V:World) (n:qad V b {s with pos:=p})=>qdK x n k;have K:∀V,qad V b {s with pos:=p}->Calls prog 188 #[.pointer (some ⟨b,0,none⟩)] V λe C=>e=.returned (.int .u8 c.toNat)/\qad C b {s with pos:=p+1}/\But b V C:=λV n=>qaw V b {s with pos:=p} c n k;have O:p<s.bs.length:=k.lt;rw[spF,E]at j;simp only[]at j;rw[kac F]at j;clear k E F;have o:True:=trivial;have q:True:=trivial;have r:True:=trivial;by_cases z:c.toNat=32\/c.toNat=9\/c.toNat=10\/c.toNat=13
  ·have m:Hid (spF s.bs s.lim g (p+1)=R):=by
    show _=_;rw[<-j.out,kag (by unfold quM;simpa using z)]
   clear j;rcases z with y|y|y|y
   all_goals
    first|have v:((c.toNat:Int)==32)=true:=(by simp;omega)|have v:=nec (c:=c) 32 (by omega)
    first|have w:((c.toNat:Int)==9)=true:=(by simp;omega)|have w:=nec (c:=c) 9 (by omega)
    first|have t:((c.toNat:Int)==10)=true:=(by simp;omega)|have t:=nec (c:=c) 10 (by omega)
    first|have u:((c.toNat:Int)==13)=true:=(by simp;omega)|have u:=nec (c:=c) 13 (by omega)
    clear y
    go_wp2_with(first
     |(go_at_call 198;clear o;refine(l 32 _ a.out.src).mono ?_;clear i;rintro e A ⟨rfl,f,d⟩;rw[v];obtain⟨a,i⟩:=rdK a f d;clear f d)
     |(go_at_call 198;clear q;refine(l 9 _ a.out.src).mono ?_;clear i;rintro e H ⟨rfl,f,d⟩;rw[w];obtain⟨a,i⟩:=rdK a f d;clear f d)
     |(go_at_call 198;clear r;refine(l 10 _ a.out.src).mono ?_;clear i;rintro e I ⟨rfl,f,d⟩;rw[t];obtain⟨a,i⟩:=rdK a f d;clear f d)
     |(go_at_call 198;refine(l 13 _ a.out.src).mono ?_;clear i;rintro e J ⟨rfl,f,d⟩;rw[u];obtain⟨a,i⟩:=rdK a f d;clear f d)
     |(go_at_call 188;refine(K _ a.out.src).mono ?_;clear i;rintro e Q ⟨rfl,f,d⟩;obtain⟨a,i⟩:=rdK a f d;clear f d))
    go_roundg g
    case measure=>omega
    case rel=>exact⟨p+1,by show _=_;have:=G.out;omega,O,a,m⟩
  have m:Hid (R=.ok ((),p)):=by
   show _=_;rw[<-j.out,kac (by unfold quM;simpa using z)]
  clear j;have v:=nec (c:=c) 32 (by omega);have w:=nec (c:=c) 9 (by omega);have t:=nec (c:=c) 10 (by omega);have u:=nec (c:=c) 13 (by omega);clear z
  go_wp2_with(first
   |(go_at_call 198;clear o;refine(l 32 _ a.out.src).mono ?_;clear i;rintro e A ⟨rfl,f,d⟩;rw[v];obtain⟨a,i⟩:=rdK a f d;clear f d)
   |(go_at_call 198;clear q;refine(l 9 _ a.out.src).mono ?_;clear i;rintro e H ⟨rfl,f,d⟩;rw[w];obtain⟨a,i⟩:=rdK a f d;clear f d)
   |(go_at_call 198;clear r;refine(l 10 _ a.out.src).mono ?_;clear i;rintro e I ⟨rfl,f,d⟩;rw[t];obtain⟨a,i⟩:=rdK a f d;clear f d)
   |(go_at_call 198;refine(l 13 _ a.out.src).mono ?_;clear i;rintro e J ⟨rfl,f,d⟩;rw[u];obtain⟨a,i⟩:=rdK a f d;clear f d))
  go_end0;rw[m.out];exact⟨a.out.but,rfl,a.out.src⟩

def qsi(s:Src):Except (Int×Int) (Unit×Nat) :=
 match s.bs[s.pos]? with
 |none=>.ok ((),s.pos)
 |some _=>if(s.pos:Int)=s.lim then .error (8,s.pos)else .error (9,s.pos)
theorem qgE(W:World)(b:Nat)(s:Src)(h:qad W b s):Calls prog 184 #[.pointer (some ⟨b,0,none⟩)] W (qbV W b s (λ_:Unit=>.tuple #[]) (qsi s)):=by
 obtain⟨R,i⟩:∃R,Hid (qsi s=R):=⟨_,show _=_ from rfl⟩
 rw[i.out];have d:=i.out;unfold qsi at d;rcases qaT h with a|a|⟨c,a⟩
 ·have g:Hid (R=.ok ((),s.pos)):=by
   show _=_;rw[kaC (by have:s.pos=s.bs.length:=a;omega)]at d;exact d.symm
  have f:=qgu W b s h a;have j:=qab h;clear d i h a;go_enter func184,ntmps184
  go_wp2_with(first
   |(go_at_call 187;refine f.mono ?_;clear f;rintro e m ⟨rfl,n,rfl⟩))
  go_end0;rw[g.out];exact⟨But.of_below (qao W n),rfl,j.out.drewN n⟩
 ·have g:Hid (R=.error (8,(s.pos:Int))):=by
   show _=_;rw[kab a.1]at d;simp only[]at d;rw[kag a.2]at d;exact d.symm
  have f:=qeJ W b s h a.1 a.2;clear d i h a;go_enter func184,ntmps184
  go_wp2_with(first
   |(go_at_call 187;refine f.mono ?_;clear f;rintro e m ⟨hF,n,rfl⟩;obtain rfl:=hF))
  rw[g.out];exact⟨rfl,But.of_below (qao W n),rfl⟩
 have g:Hid (R=.error (9,(s.pos:Int))):=by
  show _=_;rw[a.1]at d;simp only[]at d;rw[kac a.2]at d;exact d.symm
 have f:=qeS W b s h a.lt a.2;have r:=λV (t:qad V b s)=>qaw V b s c t a;have j:=qab h;have v:=a.lt;have u:=h.len;unfold maxLen at u;clear d i h a;go_enter func184,ntmps184
 go_wp2_with(first
  |(go_at_call 187;refine f.mono ?_;clear f;rintro e m ⟨rfl,n,rfl⟩;have p:=qab (j.out.drewN n))
  |(go_at_call 188;refine(r _ p.out).mono ?_;rintro e w ⟨rfl,l,k⟩;have q:=qab l;have o:=qab k;clear l k)
  |(go_at_call 189;refine(qav _ b s.next _ q.out).mono ?_;rintro e x ⟨hF,rfl⟩;obtain rfl:=hF))
 rw[g.out];exact⟨rfl,(But.of_below (qao W n)).trans o.out,by show qan _ _ _;unfold qan qdB Src.next;simp⟩
def qrR(z:Int):Value:=.iface 160 (.int .i64 z)
theorem qjt(W:World)(b:Nat)(s:Src)(c:UInt8)(h:qad W b s)(v:qgm s c)(m:c.toNat=45\/qbO c=true):Calls prog 190 #[.agg #[.pointer (some ⟨b,0,none⟩)]] W (qbV W b s qrR (qel s.next c)):=by
 have k:=qab (qaX h);have i:=k.out.cell;have l:=qaw _ b s c k.out.src v;have u:=λV (G:qad V b s.next)=>qh6 V b s.next c G m
 obtain⟨R,p⟩:∃R,Hid (qel s.next c=R):=⟨_,show _=_ from rfl⟩
 rw[p.out];have g:∀V,qad V b s.next->Calls prog 197 #[.agg #[.pointer (some ⟨b,0,none⟩)],.int .u8 c.toNat] V (qbV V b s.next (λz:Int=>.int .i64 z) R):=by rw[<-p.out];exact u
 have H:(c.toNat:Int)=45\/(48<=(c.toNat:Int)/\(c.toNat:Int)<=57):=by
  rcases m with m|m
  ·left;omega
  right;exact kaq m
 have x:¬(c.toNat:Int)=110:=by omega
 have y:¬(c.toNat:Int)=116:=by omega
 have A:¬(c.toNat:Int)=102:=by omega
 have B:¬(c.toNat:Int)=34:=by omega
 have C:¬(c.toNat:Int)=91:=by omega
 have D:¬(c.toNat:Int)=123:=by omega
 clear u p m v h;have K:=ka1.2 x;have L:=ka1.2 y;have M:=ka1.2 A;have N:=ka1.2 B;have O:=ka1.2 C;have P:=ka1.2 D;clear x y A B C D;rcases H with n|n
 ·have E:=kcy.2 n;clear n;rcases hR2:R with⟨F,I⟩|⟨z,q⟩
  ·have o:=qab hR2;rw[hR2]at g;clear hR2;go_enter func190,ntmps190
   go_wp2_with(first
    |(go_at_call 188;refine l.mono ?_;clear l i;rintro e r ⟨rfl,f,a⟩;have j:=qab (k.out.step f a);clear k f a;have d:=j;clear j;have i:=d.out.cell)
    |(go_at_call 197;refine(g _ d.out.src).mono ?_;clear g i;rintro e t ⟨a,hF⟩;obtain rfl:=hF))
   exact⟨rfl,d.out.but.trans a,rfl⟩
  have o:=qab hR2;rw[hR2]at g;clear hR2;go_enter func190,ntmps190
  go_wp2_with(first
   |(go_at_call 188;refine l.mono ?_;clear l i;rintro e r ⟨rfl,f,a⟩;have j:=qab (k.out.step f a);clear k f a;have d:=j;clear j;have i:=d.out.cell)
   |(go_at_call 197;refine(g _ d.out.src).mono ?_;clear g i;rintro e t ⟨a,rfl,f⟩))
  go_ret;exact⟨d.out.but.trans a,rfl,f⟩
 have w:=kax n;have E:((c.toNat:Int)==45)=false:=ka1.2 (by omega);clear n;rcases hR2:R with⟨F,I⟩|⟨z,q⟩
 ·have o:=qab hR2;rw[hR2]at g;clear hR2;go_enter func190,ntmps190
  go_wp2_with(first
   |(go_at_call 188;refine l.mono ?_;clear l i;rintro e r ⟨rfl,f,a⟩;have j:=qab (k.out.step f a);clear k f a;have d:=j;clear j;have i:=d.out.cell)
   |(go_at_call 196;refine(qbt c _).mono ?_;rintro e J ⟨rfl,rfl⟩;rw[w])
   |(go_at_call 197;refine(g _ d.out.src).mono ?_;clear g i;rintro e t ⟨a,hF⟩;obtain rfl:=hF))
  exact⟨rfl,d.out.but.trans a,rfl⟩
 have o:=qab hR2;rw[hR2]at g;clear hR2;go_enter func190,ntmps190
 go_wp2_with(first
  |(go_at_call 188;refine l.mono ?_;clear l i;rintro e r ⟨rfl,f,a⟩;have j:=qab (k.out.step f a);clear k f a;have d:=j;clear j;have i:=d.out.cell)
  |(go_at_call 196;refine(qbt c _).mono ?_;rintro e J ⟨rfl,rfl⟩;rw[w])
  |(go_at_call 197;refine(g _ d.out.src).mono ?_;clear g i;rintro e t ⟨a,rfl,f⟩))
 go_ret;exact⟨d.out.but.trans a,rfl,f⟩

structure qau(W:World)(ia:Option Addr)(bs:List UInt8):Prop where
 at_:∀i (h:i<bs.length),∃g off,ia=some ⟨g,off,none⟩/\g<W.heap.size/\W.cell? ⟨g,off+i,none⟩=some (.int .u8 (bs[i]'h).toNat)
 len:bs.length<=maxLen
theorem qau.below(h:qau W ia bs)(b:Below W.heap.size W W'):qau W' ia bs :=
 ⟨λi e=>by
  obtain⟨g,off,c,a,d⟩:=h.at_ i e;exact⟨g,off,c,kai a b.size,(b.cell (p:=⟨g,off+i,none⟩) a).trans d⟩,h.len⟩
theorem qmB{cap:Nat}{d l:Int}(h:qau W ia bs)(f:Below W.heap.size W W')(m:W.heap.size<=b)(k:W'.heap[b]?=some (.cells (Src.arr ⟨ia,bs,cap,d,l,0,0⟩) 112)):qad W' b ⟨ia,bs,cap,d,l,0,0⟩ :=
 ⟨k,λi j=>by
  obtain⟨g,off,a,c,e⟩:=h.at_ i j;exact⟨g,off,a,by omega,(f.cell (p:=⟨g,off+i,none⟩) c).trans e⟩,h.len,kaY _⟩
theorem qed(W:World)(a:Option Addr)(bs:List UInt8)(c:Nat)(d l:Int)(h:qau W a bs):Calls prog 32 #[.int .i64 1,.agg #[.int .i64 d,.int .i64 l],.slice a bs.length c] W λe f =>
   ∃b,e=.returned (.iface 114 (.agg #[.pointer (some ⟨b,0,none⟩)]))/\qad f b ⟨a,bs,c,d,l,0,0⟩/\W.heap.size<=b/\Below W.heap.size W f:=by
 have j:=qab h;go_enter func32,ntmps32;go_wp2;go_ret;have g:Below W.heap.size W ((W.alloc (.cells #[.int .i64 d,.int .i64 l] 52)).alloc (.cells #[.slice a bs.length c,.int .i64 d,.int .i64 l,.int .i64 0,.int .i64 0] 112)):=(bwA).alloc (by simp) _;have i:=qac (W.alloc (.cells #[.int .i64 d,.int .i64 l] 52)) (.cells #[.slice a bs.length c,.int .i64 d,.int .i64 l,.int .i64 0,.int .i64 0] 112);rw[kad]at i;exact⟨W.heap.size+1,rfl,qmB j.out g (by omega) i,by omega,g⟩
theorem qa6{V':World}(h:Below W.heap.size W V)(a:But b V V')(d:W.heap.size<=b):Below W.heap.size W V' :=
 ⟨a.os.trans h.os,a.tape.trans h.tape,a.output.trans h.output,kaj h.size a.size,λk c=>(a.block k (by have:=h.size;omega) (by omega)).trans (h.block k c)⟩
def qoT{α:Type}(W:World)(val:α->Value)(r:Except (Int×Int) α)(e:Ending)(W':World):Prop :=
 Below W.heap.size W W'/\match r with
 |.ok z=>e=.returned (val z)
 |.error (en,pl)=>qan en pl e
theorem qbY{α:Type}{P:Program}{o:Oper}{a:Act}{K:Act->World->Prop}{Q:Exit->Act->World->Prop}{x:Result α}{y:α}{w:World}{k:α->World->Result Next}(h:x=.ok y w)(b:o.upon P a K Q (k y w)):o.upon P a K Q (x.andThen k):=by rw[h];exact b

theorem Tryz.infoU8:(prog.info? 5).map (λi=>(i.zero,i.size,i.bytes))=some (some (.int .u8 0),1,1):=by kernel_rfl
def qax(b:UInt8):Value:=.int .u8 b.toNat
theorem qbH{e:TypeId}{size:Nat}(c:W.ownsRow base e size v n xs){g:Nat}(h:v.ownBlock=some g):base<=g:=by
 rcases c.2 with⟨a,_⟩|⟨i,d,f,rfl,b,_⟩
 ·subst a;cases h
 cases h;exact b
theorem qag(w:World)(cs:Array Value)(t:TypeId):∀(j:Nat) (u:Value),cs.toList[j]?=some u->(w.alloc (.cells cs t)).cell? ((⟨w.heap.size,0,none⟩:Addr).add j)=some u:=λj u a=>by
 have e:(⟨w.heap.size,0,none⟩:Addr).add j=⟨w.heap.size,j,none⟩:=by by_cases h:j=0<;>simp[Addr.add,h]
 rw[e,kbg _ _ _ _ _ _ (qac _ _)];simpa using a
def Own(W:World)(base:Nat)(v:Value)(bs:List UInt8):Prop:=W.ownsRow base 5 1 v bs.length (bs.map qax)/\base<=W.heap.size/\∃a n c,v=.slice a n c
def beF(x:Nat):Nat->List UInt8
 |0=>[]
 |k+1=>UInt8.ofNat (x/2^(8*k)%256)::beF x k
theorem qnv(x k:Nat):qax (UInt8.ofNat (x/2^(8*k)%256))=.int .u8 ((x:Int)/2^(8*k)%256):=by
 unfold qax;have e:(UInt8.ofNat (x/2^(8*k)%256)).toNat=x/2^(8*k)%256:=by
  rw[kbs];have:x/2^(8*k)%256<256:=kd8 _ (by decide);omega
 rw[e];congr 1
theorem qbQ{b:UInt8}(h:W'.ownsRow base 5 1 v' (ys.length+1) (ys.map qax++[u]))(a:qax b=u):W'.ownsRow base 5 1 v' (ys++[b]).length ((ys++[b]).map qax):=by
 rw[kaa,kaW];subst a;exact h
theorem qa4{t:TypeId}{z:Nat}(b:Below base W V)(c:V.ownsRow base t z v n xs)(a:V.grownBy W' v.ownBlock)(f:base<=V.heap.size):Below base W W' :=
 b.trans ⟨a.os,a.tape,a.output,a.size,λi d=>a.block i (by omega) (λe=>by have:=qbH c e.symm;omega)⟩
theorem qar(W:World)(b:Nat)(v:Value)(bs:List UInt8)(x w:Nat)(_hx:x<18446744073709551616)(J:w<=8)(H:bs.length<=1000000000)(h:Own W b v bs):Calls prog 92 #[v,.int .u64 x,.int .i64 w] W λe o=>∃j,e=.returned j/\Own o b j (bs++beF x w)/\Below b W o:=by
 obtain⟨D,s,A,B,C⟩:=kaF Tryz.infoU8;obtain⟨t,i,a,n,c,rfl⟩:=h;have f:=qab t;go_enter func92,ntmps92;go_wp2
 go_loopg[0,7] w (λg y z wr=>∃(d:List UInt8) (a n c:_),y=.slice a n c/\z=.int .i64 ((g:Int)-1)/\g<=w/\d.length<=1000000000+(w-g)/\b<=wr.heap.size/\Hid (wr.ownsRow b 5 1 (.slice a n c) d.length (d.map qax))/\Hid (Below b W wr)/\Hid (d++beF x g=bs++beF x w))
 case atStart=>exact⟨bs,a,n,c,rfl,by go_num,kaf _,by omega,i,f,kam _ _,rfl⟩
 case round =>
  obtain⟨d,a,n,c,rfl,rfl,G,K,i,f,l,m⟩:=hrel
  cases gk with
  |zero =>
   go_wp2;go_ret;have e:d=bs++beF x w:=by have:=m.out;simpa[beF]using this
   subst e;exact⟨_,rfl,⟨f.out,i,_,_,_,rfl⟩,l.out⟩
  |succ k =>
   go_wp2_with(first
    |(at_builtin;refine kao _ rfl _ _ 27 rfl b 5 D (.int .u8 0) 1 1 underlying27 s A B C rfl (by decide) _ _ _ rfl (f.out.alloc _) ⟨wr.heap.size,0,none⟩ 1 1 [.int .u8 ((x:Int)/2^(8*k)%256)] rfl rfl (qag _ _ _) (λu r=>by simp at r;subst r;rfl) (by unfold maxLen;omega) (by omega) (by simp;omega) ?_;intro j L q p I;obtain⟨F,E,rfl⟩:=ownsRow_succ q))
   go_roundg k
   case measure=>omega
   case rel =>
    refine⟨d++[UInt8.ofNat (x/2^(8*k)%256)],_,_,_,rfl,by go_num,by omega,by rw[kaa];simp;omega,?_,qbQ q (qnv x k),qa4 (l.out.trans ((kam b wr).alloc i _)) (f.out.alloc _) p (by simp;omega),?_⟩
    ·have:=p.size;simp at this;omega
    show _=_;have:=m.out;rw[beF]at this;rw[kap];exact this

def qbl(x:Nat):List UInt8 :=
 if x<128 then[UInt8.ofNat x]else if x<=255 then 204::beF x 1 else if x<=65535 then 205::beF x 2 else if x<=4294967295 then 206::beF x 4 else 207::beF x 8
def qbu(z:Int):List UInt8 :=
 if -32<=z then[UInt8.ofNat (z%256).toNat]else if -128<=z then 208::beF (z%18446744073709551616).toNat 1 else if -32768<=z then 209::beF (z%18446744073709551616).toNat 2 else if -2147483648<=z then 210::beF (z%18446744073709551616).toNat 4 else 211::beF (z%18446744073709551616).toNat 8
def qaj(s x:Nat):List UInt8 :=
 if x<24 then[UInt8.ofNat (32*s+x)]else if x<=255 then UInt8.ofNat (32*s+24)::beF x 1 else if x<=65535 then UInt8.ofNat (32*s+25)::beF x 2 else if x<=4294967295 then UInt8.ofNat (32*s+26)::beF x 4 else UInt8.ofNat (32*s+27)::beF x 8
theorem qba(x:Nat)(h:x<256):qax (UInt8.ofNat x)=.int .u8 (x:Int):=by
 unfold qax;rw[kbs,kaQ (by omega)]
theorem qa0{a:Option Addr}{c:Nat}{b:UInt8}(g:base<=W.heap.size)(h:W.ownsRow base 5 1 (.slice a n c) bs.length (bs.map qax))(i:qax b=u)(e:W'.ownsRow base 5 1 v' (bs.length+1) (bs.map qax++[u]))(d:(W.alloc (Obj.cells #[u] 5)).grownBy W' (Value.slice a n c).ownBlock):Own W' base v' (bs++[b])/\Below base W W':=by
 have f:=qbQ e i;obtain⟨k,j,rfl⟩:=ownsRow_succ e;refine⟨⟨f,?_,_,_,_,rfl⟩,qa4 ((kam base W).alloc g _) (h.alloc _) d (by simp;omega)⟩;have:=d.size;simp at this;omega
theorem qaP{W2:World}{zs:List UInt8}{b:UInt8}{v2:Value}(h:Own W' base v' (bs++[b])/\Below base W W')(a:Own W2 base v2 ((bs++[b])++ys))(c:Below base W' W2)(e:b::ys=zs):Own W2 base v2 (bs++zs)/\Below base W W2:=by
 subst e;refine⟨?_,h.2.trans c⟩;rw[kap]at a;exact a
theorem qmo(W:World)(b:Nat)(v:Value)(bs:List UInt8)(x:Nat)(Q:x<18446744073709551616)(P:bs.length<=999999999)(h:Own W b v bs):Calls prog 73 #[v,.int .u64 x] W λe M=>∃y,e=.returned y/\Own M b y (bs++qbl x)/\Below b W M:=by
 obtain⟨F,B,C,D,E⟩:=kaF Tryz.infoU8;obtain⟨O,A,a,n,c,rfl⟩:=h;have j:=qab O;by_cases z:x<128
 ·have l:Hid (qbl x=UInt8.ofNat x::[]):=by show _=_;unfold qbl;rw[kag z]
  go_enter func73,ntmps73
  go_wp2_with(first
    |(at_builtin;refine kao _ rfl _ _ 27 rfl b 5 F (.int .u8 0) 1 1 underlying27 B C D E rfl (by decide) _ _ _ rfl (j.out.alloc _) ⟨W.heap.size,0,none⟩ 1 1 [.int .u8 (x:Int)] rfl rfl (qag _ _ _) (λu f=>by simp at f;subst f;rfl) (by unfold maxLen;omega) (by omega) (by simp;omega) ?_;intro y g d k J;obtain⟨I,H,rfl⟩:=ownsRow_succ d;have i:Hid (Own g b _ (bs++[UInt8.ofNat x])/\Below b W g):=qa0 A j.out (qba _ (by omega)) d k))
  go_ret;rw[l.out];exact⟨_,rfl,i.out⟩
 skip
 by_cases G:x<=255
 ·have l:Hid (qbl x=204::beF x 1):=by show _=_;unfold qbl;rw[kac z];rw[kag G]
  go_enter func73,ntmps73
  go_wp2_with(first
    |(at_builtin;refine kao _ rfl _ _ 27 rfl b 5 F (.int .u8 0) 1 1 underlying27 B C D E rfl (by decide) _ _ _ rfl (j.out.alloc _) ⟨W.heap.size,0,none⟩ 1 1 [.int .u8 204] rfl rfl (qag _ _ _) (λu f=>by simp at f;subst f;rfl) (by unfold maxLen;omega) (by omega) (by simp;omega) ?_;intro y g d k J;obtain⟨I,H,rfl⟩:=ownsRow_succ d;have i:Hid (Own g b _ (bs++[204])/\Below b W g):=qa0 A j.out (rfl) d k)
    |(go_at_call 92;refine(qar _ b _ _ (x) 1 (by omega) (by omega) (by simp;omega) i.out.1).mono ?_;rintro e L ⟨K,rfl,q,t⟩;obtain⟨r,s,o,w,p,rfl⟩:=q;have m:=qab (qaP i.out ⟨r,s,o,w,p,rfl⟩ t (l.out.symm))))
  go_ret;exact⟨_,rfl,m.out⟩
 skip
 by_cases c2:x<=65535
 ·have l:Hid (qbl x=205::beF x 2):=by show _=_;unfold qbl;rw[kac z];rw[kac G];rw[kag c2]
  go_enter func73,ntmps73
  go_wp2_with(first
    |(at_builtin;refine kao _ rfl _ _ 27 rfl b 5 F (.int .u8 0) 1 1 underlying27 B C D E rfl (by decide) _ _ _ rfl (j.out.alloc _) ⟨W.heap.size,0,none⟩ 1 1 [.int .u8 205] rfl rfl (qag _ _ _) (λu f=>by simp at f;subst f;rfl) (by unfold maxLen;omega) (by omega) (by simp;omega) ?_;intro y g d k J;obtain⟨I,H,rfl⟩:=ownsRow_succ d;have i:Hid (Own g b _ (bs++[205])/\Below b W g):=qa0 A j.out (rfl) d k)
    |(go_at_call 92;refine(qar _ b _ _ (x) 2 (by omega) (by omega) (by simp;omega) i.out.1).mono ?_;rintro e L ⟨K,rfl,q,t⟩;obtain⟨r,s,o,w,p,rfl⟩:=q;have m:=qab (qaP i.out ⟨r,s,o,w,p,rfl⟩ t (l.out.symm))))
  go_ret;exact⟨_,rfl,m.out⟩
 skip
 by_cases N:x<=4294967295
 ·have l:Hid (qbl x=206::beF x 4):=by show _=_;unfold qbl;rw[kac z];rw[kac G];rw[kac c2];rw[kag N]
  go_enter func73,ntmps73
  go_wp2_with(first
    |(at_builtin;refine kao _ rfl _ _ 27 rfl b 5 F (.int .u8 0) 1 1 underlying27 B C D E rfl (by decide) _ _ _ rfl (j.out.alloc _) ⟨W.heap.size,0,none⟩ 1 1 [.int .u8 206] rfl rfl (qag _ _ _) (λu f=>by simp at f;subst f;rfl) (by unfold maxLen;omega) (by omega) (by simp;omega) ?_;intro y g d k J;obtain⟨I,H,rfl⟩:=ownsRow_succ d;have i:Hid (Own g b _ (bs++[206])/\Below b W g):=qa0 A j.out (rfl) d k)
    |(go_at_call 92;refine(qar _ b _ _ (x) 4 (by omega) (by omega) (by simp;omega) i.out.1).mono ?_;rintro e L ⟨K,rfl,q,t⟩;obtain⟨r,s,o,w,p,rfl⟩:=q;have m:=qab (qaP i.out ⟨r,s,o,w,p,rfl⟩ t (l.out.symm))))
  go_ret;exact⟨_,rfl,m.out⟩
 skip
 have l:Hid (qbl x=207::beF x 8):=by show _=_;unfold qbl;rw[kac z];rw[kac G];rw[kac c2];rw[kac N]
 go_enter func73,ntmps73
 go_wp2_with(first
   |(at_builtin;refine kao _ rfl _ _ 27 rfl b 5 F (.int .u8 0) 1 1 underlying27 B C D E rfl (by decide) _ _ _ rfl (j.out.alloc _) ⟨W.heap.size,0,none⟩ 1 1 [.int .u8 207] rfl rfl (qag _ _ _) (λu f=>by simp at f;subst f;rfl) (by unfold maxLen;omega) (by omega) (by simp;omega) ?_;intro y g d k J;obtain⟨I,H,rfl⟩:=ownsRow_succ d;have i:Hid (Own g b _ (bs++[207])/\Below b W g):=qa0 A j.out (rfl) d k)
   |(go_at_call 92;refine(qar _ b _ _ (x) 8 (by omega) (by omega) (by simp;omega) i.out.1).mono ?_;rintro e L ⟨K,rfl,q,t⟩;obtain⟨r,s,o,w,p,rfl⟩:=q;have m:=qab (qaP i.out ⟨r,s,o,w,p,rfl⟩ t (l.out.symm))))
 go_ret;exact⟨_,rfl,m.out⟩

end
end Go.Proofs.YtmajcjammmjimaaGreatDoor
