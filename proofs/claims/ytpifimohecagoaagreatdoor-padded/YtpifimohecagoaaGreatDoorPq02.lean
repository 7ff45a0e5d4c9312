import Derived.RangeFuncRecord
import Derived.Test.YtpifimohecagoaaGreatDoorPq00
set_option maxRecDepth 100000
set_option maxHeartbeats 8000000
namespace Go.Proofs.YtpifimohecagoaaGreatDoor
open Go.Proofs.Tryz
variable{N b:Nat}{W W' W0:World}{c:UInt8}{bs:List UInt8}{ia:Option Addr}
section
open Go.RowKit
structure Src where
 ia:Option Addr
 bs:List UInt8
 cap:Nat
 depth:Int
 lim:Int
 pos:Nat
 within:Nat
def Src.arr(s:Src):Array Value:=#[.slice s.ia s.bs.length s.cap,.int .i64 s.depth,.int .i64 s.lim,.int .i64 s.pos,.int .i64 s.within]
structure qad(W:World)(b:Nat)(s:Src):Prop where
 row:W.heap[b]?=some (.cells s.arr 128)
 inp:∀i (h:i<s.bs.length),∃g off,s.ia=some ⟨g,off,none⟩/\g≠b/\W.cell? ⟨g,off+i,none⟩=some (.int .u8 (s.bs[i]'h).toNat)
 len:s.bs.length<=maxLen
 le:s.pos<=s.bs.length
structure But(b:Nat)(W W':World):Prop where
 os:W'.os=W.os
 tape:W'.tape=W.tape
 output:W'.output=W.output
 size:W.heap.size<=W'.heap.size
 block:∀k,k<W.heap.size->k≠b->W'.heap[k]?=W.heap[k]?
theorem But.refl(b:Nat)(W:World):But b W W:=⟨rfl,rfl,rfl,Nat.le_refl _,λ_ _ _=>rfl⟩
theorem But.trans{A B C:World}(h:But b A B)(k:But b B C):But b A C :=
 ⟨k.os.trans h.os,k.tape.trans h.tape,k.output.trans h.output,Nat.le_trans h.size k.size,λi c a=>(k.block i (by have:=h.size;omega) a).trans (h.block i c a)⟩
theorem But.of_below(h:Below W.heap.size W W'):But b W W':=⟨h.os,h.tape,h.output,h.size,λk a _=>h.block k a⟩
theorem qad.below{s:Src}(h:qad W b s)(c:Below W.heap.size W W'):qad W' b s :=
 ⟨(c.block _ (ltA h.row)).trans h.row,λi f=>by
  obtain⟨g,off,d,e,a⟩:=h.inp i f;exact⟨g,off,d,e,(c.cell (p:=⟨g,off+i,none⟩) (block_lt_of_cell a)).trans a⟩,h.len,h.le⟩
def qd5(e p:Int):Value:=.iface 88 (.agg #[.int .i64 e,.int .i64 p])
def qan(e p:Int)(en:Ending):Prop:=en=.panicked [{v:=qd5 e p,recovered:=false}]
theorem qao(W:World)(n:Nat):Below W.heap.size W (W.drewN n):=⟨rfl,rfl,rfl,Nat.le_refl _,λ_ _=>rfl⟩
theorem qge(W:World)(b:Nat)(s:Src)(h:qad W b s)(c:s.pos=s.bs.length):Calls prog 185 #[.pointer (some ⟨b,0,none⟩)] W λe a=>e=.returned (.bool false)/\∃n,a=W.drewN n:=by
 have f:W.cell? ⟨b,0,none⟩=some (.slice s.ia s.bs.length s.cap):=qaa h.row 0;have g:W.cell? ⟨b,3,none⟩=some (.int .i64 s.pos):=qaa h.row 3;have d:(s.pos:Int)=s.bs.length:=by omega
 go_enter func185,ntmps185;go_wp2
 go_region
 go_wp2;go_ret;exact⟨rfl,1,rfl⟩
theorem qeA(W:World)(b:Nat)(s:Src)(h:qad W b s)(d:s.pos<s.bs.length)(c:(s.pos:Int)=s.lim):Calls prog 185 #[.pointer (some ⟨b,0,none⟩)] W λe a=>qan 8 s.pos e/\∃n,a=W.drewN n:=by
 have g:W.cell? ⟨b,0,none⟩=some (.slice s.ia s.bs.length s.cap):=qaa h.row 0;have i:W.cell? ⟨b,2,none⟩=some (.int .i64 s.lim):=qaa h.row 2;have j:W.cell? ⟨b,3,none⟩=some (.int .i64 s.pos):=qaa h.row 3;have f:¬(s.pos:Int)=s.bs.length:=by omega
 go_enter func185,ntmps185;go_wp2
 go_region
 go_wp2
 go_region
 go_wp2;exact⟨rfl,by rw[c];rfl,2,rfl⟩
theorem qeT(W:World)(b:Nat)(s:Src)(h:qad W b s)(c:s.pos<s.bs.length)(f:¬(s.pos:Int)=s.lim):Calls prog 185 #[.pointer (some ⟨b,0,none⟩)] W λe a=>e=.returned (.bool true)/\∃n,a=W.drewN n:=by
 have g:W.cell? ⟨b,0,none⟩=some (.slice s.ia s.bs.length s.cap):=qaa h.row 0;have i:W.cell? ⟨b,2,none⟩=some (.int .i64 s.lim):=qaa h.row 2;have j:W.cell? ⟨b,3,none⟩=some (.int .i64 s.pos):=qaa h.row 3;have d:¬(s.pos:Int)=s.bs.length:=by omega
 go_enter func185,ntmps185;go_wp2
 go_region
 go_wp2
 go_region
 go_wp2;go_ret;exact⟨rfl,2,rfl⟩
def qxu(s:Src):Prop:=s.pos=s.bs.length
def qxz(s:Src):Prop:=s.pos<s.bs.length/\(s.pos:Int)=s.lim
def qgu(s:Src)(c:UInt8):Prop:=s.bs[s.pos]?=some c/\¬(s.pos:Int)=s.lim
theorem qaR{s:Src}(h:qad W b s):qxu s\/qxz s\/∃c,qgu s c:=by
 have:=h.le;by_cases d:s.pos=s.bs.length
 ·exact .inl d
 by_cases a:(s.pos:Int)=s.lim
 ·exact .inr (.inl ⟨by omega,a⟩)
 exact .inr (.inr ⟨s.bs[s.pos]'(by omega),by rw[List.getElem?_eq_getElem (by omega)],a⟩)
theorem qgu.lt{s:Src}(h:qgu s c):s.pos<s.bs.length:=ltL h.1
theorem qgu.cell{s:Src}(h:qad W b s)(d:qgu s c):∃g off,s.ia=some ⟨g,off,none⟩/\g≠b/\W.cell? ⟨g,off+s.pos,none⟩=some (.int .u8 c.toNat):=by
 obtain⟨g,off,e,f,a⟩:=h.inp s.pos d.lt;have:=(List.getElem?_eq_some_iff.1 d.1).2;rw[this]at a;exact⟨g,off,e,f,a⟩
def Src.next(s:Src):Src:={s with pos:=s.pos+1}
theorem qth{s:Src}(h:qad W b s)(m:s.pos<s.bs.length)(n:Nat):qad ((W.drewN n).setCell ⟨b,3,none⟩ (.int .i64 ((s.pos:Int)+1))) b s.next/\But b W ((W.drewN n).setCell ⟨b,3,none⟩ (.int .i64 ((s.pos:Int)+1))):=by
 have j:(W.drewN n).heap[b]?=some (.cells s.arr 128):=h.row;have o:=ltA h.row;refine⟨⟨?_,λi e=>?_,h.len,?_⟩,⟨rfl,rfl,rfl,by simp[World.setCell,World.drewN],λk l f=>?_⟩⟩
 ·rw[heap_setCell_same _ _ _ _ _ _ j];rfl
 ·obtain⟨g,off,c,a,d⟩:=h.inp i e;refine⟨g,off,c,a,?_⟩;have:((W.drewN n).setCell ⟨b,3,none⟩ (.int .i64 ((s.pos:Int)+1))).heap[g]?=W.heap[g]?:=heap_setCell_other (W.drewN n) _ _ _ (by simpa using a);exact(World.cell?_of_block (w:=W) this).trans d
 ·show s.pos+1<=s.bs.length;omega
 exact heap_setCell_other (W.drewN n) _ _ _ (by simpa using f)
theorem qb1(W:World)(b:Nat)(s:Src)(h:qad W b s)(d:qxu s):Calls prog 186 #[.pointer (some ⟨b,0,none⟩)] W λe a=>qan 9 s.pos e/\Below W.heap.size W a:=by
 have c:=qge W b s h d;have f:W.cell? ⟨b,3,none⟩=some (.int .i64 s.pos):=qaa h.row 3;go_enter func186,ntmps186
 go_wp2_with(first|(go_at_call 185;refine c.mono ?_;rintro e g ⟨rfl,n,rfl⟩))
 exact⟨rfl,rfl,qao _ _⟩
theorem qbd(W:World)(b:Nat)(s:Src)(h:qad W b s)(a:qxz s):Calls prog 186 #[.pointer (some ⟨b,0,none⟩)] W λe c=>qan 8 s.pos e/\Below W.heap.size W c:=by
 have d:=qeA W b s h a.1 a.2;go_enter func186,ntmps186
 go_wp2_with(first|(go_at_call 185;refine d.mono ?_;rintro e f ⟨rfl,n,rfl⟩))
 exact⟨rfl,rfl,qao _ _⟩
theorem qaw(W:World)(b:Nat)(s:Src)(c:UInt8)(h:qad W b s)(a:qgu s c):Calls prog 186 #[.pointer (some ⟨b,0,none⟩)] W λe f=>e=.returned (.int .u8 c.toNat)/\qad f b s.next/\But b W f:=by
 have l:=qeT W b s h a.lt a.2;have j:=qab (qth h a.lt);have y:=a.lt;have r:=h.len;unfold maxLen at r;obtain⟨g,off,m,o,p⟩:=a.cell h;have z:W.cell? ⟨b,3,none⟩=some (.int .i64 s.pos):=qaa h.row 3;have x:=frozen_of_row W b 3 _ _ h.row;go_enter func186,ntmps186
 go_wp2_with(first|(go_at_call 185;refine l.mono ?_;rintro e A ⟨rfl,n,rfl⟩))
 obtain⟨d,q⟩:=j.out n;have k:=qab d;have i:=qab q;have t:((W.drewN n).setCell ⟨b,3,none⟩ (.int .i64 ((s.pos:Int)+1))).cell? ⟨b,0,none⟩=some (.slice (some ⟨g,off,none⟩) s.bs.length s.cap):=by rw[<-m];exact qaa d.row 0
 have u:((W.drewN n).setCell ⟨b,3,none⟩ (.int .i64 ((s.pos:Int)+1))).cell? ⟨b,3,none⟩=some (.int .i64 ((s.pos:Int)+1)):=qaa d.row 3;have v:((W.drewN n).setCell ⟨b,3,none⟩ (.int .i64 ((s.pos:Int)+1))).cell? ⟨g,off+s.pos,none⟩=some (.int .u8 c.toNat):=by
  have:((W.drewN n).setCell ⟨b,3,none⟩ (.int .i64 ((s.pos:Int)+1))).heap[g]?=W.heap[g]?:=heap_setCell_other (W.drewN n) _ _ _ (by simpa using o);exact(World.cell?_of_block (w:=W) this).trans p
 generalize(W.drewN n).setCell ⟨b,3,none⟩ (.int .i64 ((s.pos:Int)+1))=V at *
 go_region
 go_wp2;go_ret;exact⟨rfl,k.out.below (Below.refl _ _).drew,i.out.trans (But.of_below (Below.refl _ _).drew)⟩

theorem qad.drewN{s:Src}(h:qad W b s)(n:Nat):qad (W.drewN n) b s:=h.below (qao W n)
theorem qlP(W:World)(b:Nat)(s:Src)(x:Int)(h:qad W b s)(d:qxu s):Calls prog 196 #[.pointer (some ⟨b,0,none⟩),.int .u8 x] W λe a=>e=.returned (.bool false)/\∃n,a=W.drewN n:=by
 have c:∀n,Calls prog 185 #[.pointer (some ⟨b,0,none⟩)] (W.drewN n) λe a=>e=.returned (.bool false)/\∃m,a=(W.drewN n).drewN m:=λn=>qge _ b s (h.drewN n) d;go_enter func196,ntmps196;go_wp2
 go_quiet (first|(go_at_call 185;exact(c _).quiet_of))
 go_wp2;go_ret;exact⟨rfl,nq,rfl⟩
theorem qkC(W:World)(b:Nat)(s:Src)(c:UInt8)(x:Int)(h:qad W b s)(a:qgu s c):Calls prog 196 #[.pointer (some ⟨b,0,none⟩),.int .u8 x] W λe d=>e=.returned (.bool ((c.toNat:Int)==x))/\∃n,d=W.drewN n:=by
 have f:∀n,Calls prog 185 #[.pointer (some ⟨b,0,none⟩)] (W.drewN n) λe d=>e=.returned (.bool true)/\∃m,d=(W.drewN n).drewN m:=λn=>qeT _ b s (h.drewN n) a.lt a.2;obtain⟨g,off,i,l,o⟩:=a.cell h;have j:W.cell? ⟨b,0,none⟩=some (.slice (some ⟨g,off,none⟩) s.bs.length s.cap):=by rw[<-i];exact qaa h.row 0
 have k:W.cell? ⟨b,3,none⟩=some (.int .i64 s.pos):=qaa h.row 3;have p:=a.lt;have q:(s.pos:Int)<s.bs.length:=by omega
 go_enter func196,ntmps196;go_wp2
 go_quiet (first|(go_at_call 185;exact(f _).quiet_of))
 go_wp2;go_ret;exact⟨rfl,nq,rfl⟩
theorem qd2(W:World)(b:Nat)(s:Src)(x:Int)(h:qad W b s)(c:qxz s):Calls prog 196 #[.pointer (some ⟨b,0,none⟩),.int .u8 x] W λe a=>qan 8 s.pos e/\Below W.heap.size W a:=by
 have d:Calls prog 185 #[.pointer (some ⟨b,0,none⟩)] W.drew λe a=>qan 8 s.pos e/\∃m,a=W.drew.drewN m:=qeA _ b s (h.drewN 1) c.1 c.2;go_enter func196,ntmps196;go_wp2;refine wp_region_held (S:=λ_=>True) (by kernel_rfl) ?_;refine wpAnyH_take (i:=0) (v:=.pointer (some ⟨b,0,none⟩)) rfl (by kernel_rfl) (by kernel_rfl) (by kernel_rfl) (λ_ _ _ h=>h) (.inl ⟨rfl,λW g=>rfl⟩) trivial ?_;refine rdq 1 (λK f=>?_);go_simp;refine d.mono ?_;rintro e j ⟨rfl,n,rfl⟩;exact⟨rfl,rfl,(Below.refl _ _).drew.trans (qao W.drew n)⟩
theorem qbr(c:UInt8)(w:World):Calls prog 194 #[.int .u8 c.toNat] w λe a=>e=.returned (.bool (decide (48<=(c.toNat:Int)/\(c.toNat:Int)<=57)))/\a=w:=by
 by_cases b:(48:Int)<=c.toNat
 ·by_cases d:(c.toNat:Int)<=57
  ·go_enter func194,ntmps194;go_wp2;go_ret;exact⟨by rw[decide_eq_true (by omega)];rfl,rfl⟩
  go_enter func194,ntmps194;go_wp2;go_ret;exact⟨by rw[decide_eq_false (by omega)];rfl,rfl⟩
 go_enter func194,ntmps194;go_wp2;go_ret;exact⟨by rw[decide_eq_false (by omega)];rfl,rfl⟩
theorem qau(W:World)(b:Nat)(s:Src)(e:Int)(h:qad W b s):Calls prog 187 #[.pointer (some ⟨b,0,none⟩),.int .i64 e] W λc a=>qan e ((s.pos:Int)-1) c/\a=W:=by
 have f:W.cell? ⟨b,3,none⟩=some (.int .i64 s.pos):=qaa h.row 3;have d:=h.len;have g:=h.le;unfold maxLen at d;go_enter func187,ntmps187;go_wp2;exact⟨rfl,rfl,rfl⟩
theorem qfV(W:World)(b:Nat)(s:Src)(h:qad W b s)(d:qxu s):Calls prog 211 #[.pointer (some ⟨b,0,none⟩)] W λe a=>e=.returned (.bool false)/\∃n,a=W.drewN n:=by
 have c:∀n,Calls prog 185 #[.pointer (some ⟨b,0,none⟩)] (W.drewN n) λe a=>e=.returned (.bool false)/\∃m,a=(W.drewN n).drewN m:=λn=>qge _ b s (h.drewN n) d;go_enter func211,ntmps211;go_wp2
 go_quiet (first|(go_at_call 185;exact(c _).quiet_of))
 go_wp2;go_ret;exact⟨rfl,nq,rfl⟩
theorem qfi(W:World)(b:Nat)(s:Src)(c:UInt8)(h:qad W b s)(f:qgu s c):Calls prog 211 #[.pointer (some ⟨b,0,none⟩)] W λe a=>e=.returned (.bool (decide (48<=(c.toNat:Int)/\(c.toNat:Int)<=57)))/\∃n,a=W.drewN n:=by
 have j:∀n,Calls prog 185 #[.pointer (some ⟨b,0,none⟩)] (W.drewN n) λe a=>e=.returned (.bool true)/\∃m,a=(W.drewN n).drewN m:=λn=>qeT _ b s (h.drewN n) f.lt f.2;have i:∀n,Calls prog 194 #[.int .u8 c.toNat] (W.drewN n) λe a=>e=.returned (.bool (decide (48<=(c.toNat:Int)/\(c.toNat:Int)<=57)))/\a=W.drewN n:=λn=>qbr c _;obtain⟨g,off,k,p,q⟩:=f.cell h;have l:W.cell? ⟨b,0,none⟩=some (.slice (some ⟨g,off,none⟩) s.bs.length s.cap):=by rw[<-k];exact qaa h.row 0
 have o:W.cell? ⟨b,3,none⟩=some (.int .i64 s.pos):=qaa h.row 3;have r:=f.lt;have t:(s.pos:Int)<s.bs.length:=by omega
 generalize decide (48<=(c.toNat:Int)/\(c.toNat:Int)<=57)=d at *;go_enter func211,ntmps211;go_wp2
 go_quiet (first|(go_at_call 185;exact(j _).quiet_of)|(go_at_call 194;exact(i _).quiet_of_same))
 go_wp2;go_ret;exact⟨rfl,nq,rfl⟩
theorem qfo(W:World)(b:Nat)(s:Src)(h:qad W b s)(c:qxz s):Calls prog 211 #[.pointer (some ⟨b,0,none⟩)] W λe a=>qan 8 s.pos e/\Below W.heap.size W a:=by
 have d:Calls prog 185 #[.pointer (some ⟨b,0,none⟩)] W.drew λe a=>qan 8 s.pos e/\∃m,a=W.drew.drewN m:=qeA _ b s (h.drewN 1) c.1 c.2;go_enter func211,ntmps211;go_wp2;refine wp_region_held (S:=λ_=>True) (by kernel_rfl) ?_;refine wpAnyH_take (i:=0) (v:=.pointer (some ⟨b,0,none⟩)) rfl (by kernel_rfl) (by kernel_rfl) (by kernel_rfl) (λ_ _ _ h=>h) (.inl ⟨rfl,λW g=>rfl⟩) trivial ?_;refine rdq 1 (λK f=>?_);go_simp;refine d.mono ?_;rintro e j ⟨rfl,n,rfl⟩;exact⟨rfl,rfl,(Below.refl _ _).drew.trans (qao W.drew n)⟩

def qbO(c:UInt8):Bool:=decide (48<=(c.toNat:Int)/\(c.toNat:Int)<=57)
def qeQ(bs:List UInt8)(lim:Int)(most:Nat)(z:Bool):Nat->Nat->Nat->Except (Int×Int) (Nat×Nat)
 |0,p,num=>.ok (num,p)
 |g+1,p,num=>match bs[p]? with
  |none=>.ok (num,p)
  |some c=>if(p:Int)=lim then .error (8,p)else
   if qbO c=true then(if z=true then .error (9,p)else if(most-(c.toNat-48))/10<num then .error (10,p)else qeQ bs lim most z g (p+1) (num*10+(c.toNat-48)))
   else if c.toNat=46\/c.toNat=101\/c.toNat=69 then .error (10,p)else .ok (num,p)
def qbU{α:Type}(W:World)(b:Nat)(s:Src)(val:α->Value)(r:Except (Int×Int) (α×Nat))(e:Ending)(W':World):Prop :=
 But b W W'/\match r with
 |.ok (x,p)=>e=.returned (val x)/\qad W' b {s with pos:=p}
 |.error (en,pl)=>qan en pl e
structure qoR(W0:World)(b N:Nat)(s:Src)(W:World):Prop where
 src:qad W b s
 but:But b W0 W
 box:W.heap[N]?=some (.cells #[.pointer (some ⟨b,0,none⟩)] 130)
 ne:N≠b
theorem qoR.step{s s':Src}(h:qoR W0 b N s W)(c:qad W' b s')(a:But b W W'):qoR W0 b N s' W' :=
 ⟨c,h.but.trans a,(a.block _ (ltA h.box) h.ne).trans h.box,h.ne⟩
theorem qoR.cell{s:Src}(h:qoR W0 b N s W):W.cell? ⟨N,0,none⟩=some (.pointer (some ⟨b,0,none⟩)):=qaa h.box 0
theorem rdK{s s':Src}(h:Hid (qoR W0 b N s W))(c:qad W' b s')(a:But b W W'):Hid (qoR W0 b N s' W')/\W'.cell? ⟨N,0,none⟩=some (.pointer (some ⟨b,0,none⟩)):=⟨h.out.step c a,(h.out.step c a).cell⟩
theorem qaX{s:Src}(h:qad W b s):qoR W b W.heap.size s (W.alloc (.cells #[.pointer (some ⟨b,0,none⟩)] 130)) :=
 ⟨h.below bwA,But.of_below bwA,qac _ _,by have:=ltA h.row;omega⟩
theorem qjz{s:Src}(x:Int)(h:qad W b s)(d:qxu s):Calls prog 196 #[.pointer (some ⟨b,0,none⟩),.int .u8 x] W λe a=>e=.returned (.bool false)/\qad a b s/\But b W a :=
 (qlP W b s x h d).mono λ_ _ ⟨f,n,c⟩=>⟨f,c▸h.drewN n,c▸But.of_below (qao W n)⟩
theorem qdM{s:Src}(x:Int)(h:qad W b s)(f:qgu s c):Calls prog 196 #[.pointer (some ⟨b,0,none⟩),.int .u8 x] W λe a=>e=.returned (.bool ((c.toNat:Int)==x))/\qad a b s/\But b W a :=
 (qkC W b s c x h f).mono λ_ _ ⟨g,n,d⟩=>⟨g,d▸h.drewN n,d▸But.of_below (qao W n)⟩
theorem qvz{s:Src}(h:qad W b s)(d:qxu s):Calls prog 211 #[.pointer (some ⟨b,0,none⟩)] W λe a=>e=.returned (.bool false)/\qad a b s/\But b W a :=
 (qfV W b s h d).mono λ_ _ ⟨f,n,c⟩=>⟨f,c▸h.drewN n,c▸But.of_below (qao W n)⟩
theorem qsX{s:Src}(h:qad W b s)(f:qgu s c):Calls prog 211 #[.pointer (some ⟨b,0,none⟩)] W λe a=>e=.returned (.bool (qbO c))/\qad a b s/\But b W a :=
 (qfi W b s c h f).mono λ_ _ ⟨g,n,d⟩=>⟨g,d▸h.drewN n,d▸But.of_below (qao W n)⟩
theorem qef(W:World)(b:Nat)(s:Src)(first:UInt8)(o:Nat)(h:qad W b s)(hm:o=9223372036854775807\/o=9223372036854775808)(G:48<=first.toNat/\first.toNat<=57):Calls prog 205 #[.agg #[.pointer (some ⟨b,0,none⟩)],.int .u8 first.toNat,.int .u64 o] W
   (qbU W b s (λx:Nat=>.int .u64 x) (qeQ s.bs s.lim o (first.toNat==48) (s.bs.length+1-s.pos) s.pos (first.toNat-48))):=by
 have J:=qab (qaX h);have Y:=h.le;have Z:=h.len;unfold maxLen at Z;have ad:=G.1;have ae:=G.2;obtain⟨R,j⟩:∃R,Hid (qeQ s.bs s.lim o (first.toNat==48) (s.bs.length+1-s.pos) s.pos (first.toNat-48)=R):=⟨_,show _=_ from rfl⟩
 rw[j.out];clear h G;go_enter func205,ntmps205;go_wp2;generalize W.alloc (.cells #[.pointer (some ⟨b,0,none⟩)] 130)=W0 at *
 go_loopg[7,8] (s.bs.length+1-s.pos) (λg x _ wr=>∃p q:Nat,x=.int .u64 q/\Hid (p+g=s.bs.length+1)/\p<=s.bs.length/\q<=o/\Hid (qoR W b W.heap.size {s with pos:=p} wr)/\Hid (qeQ s.bs s.lim o (first.toNat==48) g p q=R))
 case atStart=>exact⟨s.pos,first.toNat-48,by go_num,by show _=_;omega,Y,by omega,J,j⟩
 case round =>
  clear J j;obtain⟨p,q,rfl,N,hp,af,a,j⟩:=hrel;have i:=a.out.cell;obtain⟨g,rfl⟩:∃g,gk=g+1:=⟨gk-1,by have:=N.out;omega⟩
  rcases qaR a.out.src with k|k|⟨c,k⟩
  ·have l:Hid (R=.ok (q,p)):=by
    show _=_;rw[<-j.out,qeQ,List.getElem?_eq_none (by have:p=s.bs.length:=k;omega)]
   have r:=qvz a.out.src k;have m:=λ(x:Int) (V:World) (y:qad V b {s with pos:=p})=>qjz x y k;clear k j;have A:True:=trivial;have B:True:=trivial
   go_wp2_with(first
    |(go_at_call 211;refine r.mono ?_;clear r i;rintro e P ⟨rfl,f,d⟩;obtain⟨a,i⟩:=rdK a f d;clear f d)
    |(go_at_call 196;clear A;refine(m 46 _ a.out.src).mono ?_;clear i;rintro e Q ⟨rfl,f,d⟩;obtain⟨a,i⟩:=rdK a f d;clear f d)
    |(go_at_call 196;clear B;refine(m 101 _ a.out.src).mono ?_;clear i;rintro e S ⟨rfl,f,d⟩;obtain⟨a,i⟩:=rdK a f d;clear f d)
    |(go_at_call 196;refine(m 69 _ a.out.src).mono ?_;clear i;rintro e T ⟨rfl,f,d⟩;obtain⟨a,i⟩:=rdK a f d;clear f d))
   go_ret;rw[l.out];exact⟨a.out.but,rfl,a.out.src⟩
  ·have l:Hid (R=.error (8,(p:Int))):=by
    show _=_;have U:(p:Int)=s.lim:=k.2;have X:p<s.bs.length:=k.1;rw[<-j.out,qeQ,List.getElem?_eq_getElem X];simp[U]
   have r:=qfo wr b {s with pos:=p} a.out.src k;clear k j
   go_wp2_with(first
    |(go_at_call 211;refine r.mono ?_;clear r i;rintro e P ⟨rfl,d⟩))
   rw[l.out];exact⟨rfl,a.out.but.trans (But.of_below d),rfl⟩
  have L:s.bs[p]?=some c:=k.1;have M:¬(p:Int)=s.lim:=k.2;have r:=qsX a.out.src k;have m:=λ(x:Int) (V:World) (y:qad V b {s with pos:=p})=>qdM x y k;have w:∀V,qad V b {s with pos:=p}->Calls prog 186 #[.pointer (some ⟨b,0,none⟩)] V λe K=>e=.returned (.int .u8 c.toNat)/\qad K b {s with pos:=p+1}/\But b V K:=λV y=>qaw V b {s with pos:=p} c y k;have aa:p<s.bs.length:=k.lt;rw[qeQ,L]at j;simp only[]at j;rw[if_neg M]at j;clear k L M
  go_wp2_with fail
  refine r.mono ?_;clear r i;rintro e P ⟨rfl,f,d⟩;obtain⟨a,i⟩:=rdK a f d;clear f d;cases z:qbO c
  ·rw[z]at j;rw[if_neg (by simp)]at j;clear z;have A:True:=trivial;have B:True:=trivial;by_cases t:c.toNat=46\/c.toNat=101\/c.toNat=69
   ·have l:Hid (R=.error (10,(p:Int))):=by show _=_;rw[<-j.out,if_pos t]
    clear j;rcases t with t|t|t
    all_goals
     first|have D:((c.toNat:Int)==46)=true:=(by simp;omega)|have D:=nec (c:=c) 46 (by omega)
     first|have C:((c.toNat:Int)==101)=true:=(by simp;omega)|have C:=nec (c:=c) 101 (by omega)
     first|have E:((c.toNat:Int)==69)=true:=(by simp;omega)|have E:=nec (c:=c) 69 (by omega)
     clear t
     go_wp2_with(first
      |(go_at_call 196;clear A;refine(m 46 _ a.out.src).mono ?_;clear i;rintro e Q ⟨rfl,f,d⟩;rw[D];obtain⟨a,i⟩:=rdK a f d;clear f d)
      |(go_at_call 196;clear B;refine(m 101 _ a.out.src).mono ?_;clear i;rintro e S ⟨rfl,f,d⟩;rw[C];obtain⟨a,i⟩:=rdK a f d;clear f d)
      |(go_at_call 196;refine(m 69 _ a.out.src).mono ?_;clear i;rintro e T ⟨rfl,f,d⟩;rw[E];obtain⟨a,i⟩:=rdK a f d;clear f d)
      |(go_at_call 186;refine(w _ a.out.src).mono ?_;clear i;rintro e v ⟨rfl,f,d⟩;obtain⟨a,i⟩:=rdK a f d;clear f d;have n:=λ(u:Int)=>qau v b {s with pos:=p+1} u a.out.src)
      |(go_at_call 187;refine(n _).mono ?_;clear n i;rintro e H ⟨hF,rfl⟩;obtain rfl:=hF))
     rw[l.out];exact⟨rfl,a.out.but,by show qan _ _ _;unfold qan qd5;simp⟩
   have l:Hid (R=.ok (q,p)):=by show _=_;rw[<-j.out,if_neg t]
   clear j w;have D:=nec (c:=c) 46 (by omega);have C:=nec (c:=c) 101 (by omega);have E:=nec (c:=c) 69 (by omega);clear t
   go_wp2_with(first
    |(go_at_call 196;clear A;refine(m 46 _ a.out.src).mono ?_;clear i;rintro e Q ⟨rfl,f,d⟩;rw[D];obtain⟨a,i⟩:=rdK a f d;clear f d)
    |(go_at_call 196;clear B;refine(m 101 _ a.out.src).mono ?_;clear i;rintro e S ⟨rfl,f,d⟩;rw[C];obtain⟨a,i⟩:=rdK a f d;clear f d)
    |(go_at_call 196;refine(m 69 _ a.out.src).mono ?_;clear i;rintro e T ⟨rfl,f,d⟩;rw[E];obtain⟨a,i⟩:=rdK a f d;clear f d))
   go_ret;rw[l.out];exact⟨a.out.but,rfl,a.out.src⟩
  rw[z]at j;rw[if_pos rfl]at j;have F:=of_decide_eq_true z;have ab:=F.1;have ac:=F.2;clear z F;by_cases hz:(first.toNat:Int)=48
  ·have l:Hid (R=.error (9,(p:Int))):=by
    show _=_;rw[<-j.out,if_pos (by simp;omega)]
   clear j m
   go_wp2_with(first
    |(go_at_call 186;refine(w _ a.out.src).mono ?_;clear i;rintro e v ⟨rfl,f,d⟩;obtain⟨a,i⟩:=rdK a f d;clear f d;have n:=λ(u:Int)=>qau v b {s with pos:=p+1} u a.out.src)
    |(go_at_call 187;refine(n _).mono ?_;clear n i;rintro e H ⟨hF,rfl⟩;obtain rfl:=hF))
   rw[l.out];exact⟨rfl,a.out.but,by show qan _ _ _;unfold qan qd5;simp⟩
  have I:Hid ((if(o-(c.toNat-48))/10<q then Except.error (10,(p:Int))else qeQ s.bs s.lim o (first.toNat==48) g (p+1) (q*10+(c.toNat-48)))=R):=by
   have e:=j.out;rw[if_neg (show¬(first.toNat==48)=true by simp;omega)]at e;exact e
  clear j m;by_cases O:(o-(c.toNat-48))/10<q
  ·have l:Hid (R=.error (10,(p:Int))):=by
    show _=_;rw[<-I.out,if_pos O]
   go_wp2_with(first
    |(go_at_call 186;refine(w _ a.out.src).mono ?_;clear i;rintro e v ⟨rfl,f,d⟩;obtain⟨a,i⟩:=rdK a f d;clear f d;have n:=λ(u:Int)=>qau v b {s with pos:=p+1} u a.out.src)
    |(go_at_call 187;refine(n _).mono ?_;clear n i;rintro e H ⟨hF,rfl⟩;obtain rfl:=hF))
   rw[l.out];exact⟨rfl,a.out.but,rfl⟩
  have l:Hid (qeQ s.bs s.lim o (first.toNat==48) g (p+1) (q*10+(c.toNat-48))=R):=by
   show _=_;rw[<-I.out,if_neg O]
  go_wp2_with(first
   |(go_at_call 186;refine(w _ a.out.src).mono ?_;clear i;rintro e v ⟨rfl,f,d⟩;obtain⟨a,i⟩:=rdK a f d;clear f d;have n:=λ(u:Int)=>qau v b {s with pos:=p+1} u a.out.src)
   |(go_at_call 187;refine(n _).mono ?_;clear n i;rintro e H ⟨hF,rfl⟩;obtain rfl:=hF))
  go_roundg g
  case measure=>omega
  case rel=>exact⟨p+1,q*10+(c.toNat-48),by go_num,by show _=_;have:=N.out;omega,aa,by omega,a,l⟩

theorem qgS{lim:Int}{most:Nat}{z:Bool}:∀{g p num:Nat} {x q:Nat},num<=most->9<=most->qeQ bs lim most z g p num=.ok (x,q)->x<=most
 |0,p,num,x,q,hn,_,h=>by
  unfold qeQ at h;cases h;exact hn
 |g+1,p,num,x,q,hn,hm,h=>by
  unfold qeQ at h;split at h
  ·cases h;exact hn
  split at h
  ·cases h
  split at h
  ·next hd =>
   split at h
   ·cases h
   split at h
   ·cases h
   next hov =>
   have a:=of_decide_eq_true hd;exact qgS (by omega) hm h
  split at h
  ·cases h
  cases h;exact hn
def qeq(s:Src)(first:UInt8):Except (Int×Int) (Int×Nat) :=
 if first.toNat=45 then
  match s.bs[s.pos]? with
  |none=>.error (9,s.pos)
  |some c=>if(s.pos:Int)=s.lim then .error (8,s.pos)else if qbO c=true then
    (match qeQ s.bs s.lim 9223372036854775808 (c.toNat==48) (s.bs.length+1-(s.pos+1)) (s.pos+1) (c.toNat-48)with
    |.ok (x,p)=>.ok (-(x:Int),p)
    |.error e=>.error e)
   else .error (9,s.pos)
 else match qeQ s.bs s.lim 9223372036854775807 (first.toNat==48) (s.bs.length+1-s.pos) s.pos (first.toNat-48)with
  |.ok (x,p)=>.ok ((x:Int),p)
  |.error e=>.error e
theorem quc(x:Nat)(h:x<=9223372036854775808):wrap64 (IntKind.u64.wrap (-(x:Int))) = -(x:Int):=by
 by_cases b:x=0
 ·subst b;have a:IntKind.u64.wrap (-((0:Nat):Int))=0:=by
   unfold IntKind.wrap;simp[IntKind.bits,IntKind.signed]
  rw[a];unfold wrap64;omega
 have a:IntKind.u64.wrap (-(x:Int))=18446744073709551616-x:=by
  unfold IntKind.wrap;simp[IntKind.bits,IntKind.signed];omega
 rw[a];unfold wrap64
 first|omega|(unfold IntKind.wrap;simp[IntKind.bits,IntKind.signed];omega)|(split<;>omega)
theorem qhF(W:World)(b:Nat)(s:Src)(first:UInt8)(h:qad W b s)(H:first.toNat=45\/qbO first=true):Calls prog 195 #[.agg #[.pointer (some ⟨b,0,none⟩)],.int .u8 first.toNat] W (qbU W b s (λz:Int=>.int .i64 z) (qeq s first)):=by
 have g:=qab (qaX h);obtain⟨R,u⟩:∃R,Hid (qeq s first=R):=⟨_,show _=_ from rfl⟩
 rw[u.out];have w:=g.out.cell;by_cases K:(first.toNat:Int)=45
 ·have a:=u.out;unfold qeq at a;rw[if_pos (by omega)]at a;rcases qaR h with j|j|⟨c,j⟩
  ·have f:Hid (R=.error (9,(s.pos:Int))):=by
    show _=_;rw[List.getElem?_eq_none (by have:s.pos=s.bs.length:=j;omega)]at a;exact a.symm
   have l:=qb1 _ b s g.out.src j;go_enter func195,ntmps195
   go_wp2_with(first
    |(go_at_call 186;refine l.mono ?_;rintro e o ⟨hF,d⟩;obtain rfl:=hF))
   rw[f.out];exact⟨rfl,g.out.but.trans (But.of_below d),rfl⟩
  ·have f:Hid (R=.error (8,(s.pos:Int))):=by
    show _=_;rw[List.getElem?_eq_getElem j.1]at a;simp only[]at a;rw[if_pos j.2]at a;exact a.symm
   have l:=qbd _ b s g.out.src j;go_enter func195,ntmps195
   go_wp2_with(first
    |(go_at_call 186;refine l.mono ?_;rintro e o ⟨hF,d⟩;obtain rfl:=hF))
   rw[f.out];exact⟨rfl,g.out.but.trans (But.of_below d),rfl⟩
  rw[j.1]at a;simp only[]at a;rw[if_neg j.2]at a;have l:=qaw _ b s c g.out.src j;have L:=j.lt;have I:=h.len;unfold maxLen at I;cases n:decide (48<=(c.toNat:Int)/\(c.toNat:Int)<=57)
  ·have f:Hid (R=.error (9,(s.pos:Int))):=by
    show _=_;rw[if_neg (by unfold qbO;rw[n];simp)]at a;exact a.symm
   go_enter func195,ntmps195
   go_wp2_with(first
    |(go_at_call 186;refine l.mono ?_;rintro e o ⟨rfl,k,d⟩;have p:=qab (g.out.step k d);have i:=p;have w:=i.out.cell)
    |(go_at_call 194;refine(qbr c _).mono ?_;rintro e C ⟨rfl,rfl⟩;rw[n])
    |(go_at_call 187;refine(qau _ b s.next _ i.out.src).mono ?_;rintro e M ⟨hF,rfl⟩;obtain rfl:=hF))
   rw[f.out];exact⟨rfl,i.out.but,by show qan _ _ _;unfold qan qd5 Src.next;simp⟩
  have t:=of_decide_eq_true n;have F:=t.1;have G:=t.2;rw[if_pos (by unfold qbO;exact n)]at a;have r:=λV (E:qad V b s.next)=>qef V b s.next c 9223372036854775808 E (.inr rfl) ⟨by omega,by omega⟩
  obtain⟨D,m⟩:∃D,qeQ s.bs s.lim 9223372036854775808 (c.toNat==48) (s.bs.length+1-(s.pos+1)) (s.pos+1) (c.toNat-48)=D:=⟨_,rfl⟩
  have A:∀V,qad V b s.next->Calls prog 205 #[.agg #[.pointer (some ⟨b,0,none⟩)],.int .u8 c.toNat,.int .u64 9223372036854775808] V (qbU V b s.next (λx:Nat=>.int .u64 x) D):=by rw[<-m];exact r
  rw[m]at a;rcases D with⟨v,y⟩|⟨x,q⟩
  ·have f:Hid (R=.error (v,y)):=a.symm;go_enter func195,ntmps195
   go_wp2_with(first
    |(go_at_call 186;refine l.mono ?_;rintro e o ⟨rfl,k,d⟩;have p:=qab (g.out.step k d);have i:=p;have w:=i.out.cell)
    |(go_at_call 194;refine(qbr c _).mono ?_;rintro e C ⟨rfl,rfl⟩;rw[n])
    |(go_at_call 205;refine(A _ i.out.src).mono ?_;rintro e J ⟨d,hF⟩;obtain rfl:=hF))
   rw[f.out];exact⟨rfl,i.out.but.trans d,rfl⟩
  have f:Hid (R=.ok (-(x:Int),q)):=a.symm;have B:=qgS (by omega) (by omega) m;go_enter func195,ntmps195
  go_wp2_with(first
   |(go_at_call 186;refine l.mono ?_;rintro e o ⟨rfl,k,d⟩;have p:=qab (g.out.step k d);have i:=p;have w:=i.out.cell)
   |(go_at_call 194;refine(qbr c _).mono ?_;rintro e C ⟨rfl,rfl⟩;rw[n])
   |(go_at_call 205;refine(A _ i.out.src).mono ?_;rintro e J ⟨d,rfl,k⟩))
  go_ret;rw[f.out];exact⟨i.out.but.trans d,congrArg (λz=>Ending.returned (Value.int .i64 z)) (quc x B),k⟩
 have t:=of_decide_eq_true (H.resolve_left (by omega));have F:=t.1;have G:=t.2;have r:=qef (W.alloc (.cells #[.pointer (some ⟨b,0,none⟩)] 130)) b s first 9223372036854775807 g.out.src (.inl rfl) ⟨by omega,by omega⟩
 have a:=u.out;unfold qeq at a;rw[if_neg (by omega)]at a;obtain⟨D,m⟩:∃D,qeQ s.bs s.lim 9223372036854775807 (first.toNat==48) (s.bs.length+1-s.pos) s.pos (first.toNat-48)=D:=⟨_,rfl⟩
 rw[m]at r a;rcases D with⟨v,y⟩|⟨x,q⟩
 ·have f:Hid (R=.error (v,y)):=a.symm;go_enter func195,ntmps195
  go_wp2_with(first
   |(go_at_call 205;refine r.mono ?_;rintro e o ⟨d,hF⟩;obtain rfl:=hF))
  rw[f.out];exact⟨rfl,g.out.but.trans d,rfl⟩
 have f:Hid (R=.ok ((x:Int),q)):=a.symm;have B:=qgS (by omega) (by omega) m;go_enter func195,ntmps195
 go_wp2_with(first
  |(go_at_call 205;refine r.mono ?_;rintro e o ⟨d,rfl,k⟩))
 go_ret;rw[f.out];exact⟨g.out.but.trans d,rfl,k⟩

def quE(c:UInt8):Bool:=c.toNat==32||(c.toNat==9||(c.toNat==10||c.toNat==13))
def spF(bs:List UInt8)(lim:Int):Nat->Nat->Except (Int×Int) (Unit×Nat)
 |0,p=>.ok ((),p)
 |g+1,p=>match bs[p]? with
  |none=>.ok ((),p)
  |some c=>if(p:Int)=lim then .error (8,p)else if quE c=true then spF bs lim g (p+1)else .ok ((),p)
theorem qaT(W:World)(b:Nat)(s:Src)(h:qad W b s):Calls prog 189 #[.agg #[.pointer (some ⟨b,0,none⟩)]] W (qbU W b s (λ_:Unit=>.tuple #[]) (spF s.bs s.lim (s.bs.length+1-s.pos) s.pos)):=by
 have B:=qab (qaX h);have N:=h.le;obtain⟨R,j⟩:∃R,Hid (spF s.bs s.lim (s.bs.length+1-s.pos) s.pos=R):=⟨_,show _=_ from rfl⟩
 rw[j.out];clear h;go_enter func189,ntmps189;go_wp2;generalize W.alloc (.cells #[.pointer (some ⟨b,0,none⟩)] 130)=W0 at *
 go_loopg[2] (s.bs.length+1-s.pos) (λg _ wr=>∃p:Nat,Hid (p+g=s.bs.length+1)/\p<=s.bs.length/\Hid (qoR W b W.heap.size {s with pos:=p} wr)/\Hid (spF s.bs s.lim g p=R))
 case atStart=>exact⟨s.pos,by show _=_;omega,N,B,j⟩
 case round =>
  clear B j;obtain⟨p,G,P,a,j⟩:=hrel;have i:=a.out.cell;obtain⟨g,rfl⟩:∃g,gk=g+1:=⟨gk-1,by have:=G.out;omega⟩
  rcases qaR a.out.src with k|k|⟨c,k⟩
  ·have m:Hid (R=.ok ((),p)):=by
    show _=_;rw[<-j.out,spF,List.getElem?_eq_none (by have:p=s.bs.length:=k;omega)]
   have l:=λ(x:Int) (V:World) (n:qad V b {s with pos:=p})=>qjz x n k;clear k j;have o:True:=trivial;have q:True:=trivial;have r:True:=trivial
   go_wp2_with(first
    |(go_at_call 196;clear o;refine(l 32 _ a.out.src).mono ?_;clear i;rintro e A ⟨rfl,f,d⟩;obtain⟨a,i⟩:=rdK a f d;clear f d)
    |(go_at_call 196;clear q;refine(l 9 _ a.out.src).mono ?_;clear i;rintro e H ⟨rfl,f,d⟩;obtain⟨a,i⟩:=rdK a f d;clear f d)
    |(go_at_call 196;clear r;refine(l 10 _ a.out.src).mono ?_;clear i;rintro e I ⟨rfl,f,d⟩;obtain⟨a,i⟩:=rdK a f d;clear f d)
    |(go_at_call 196;refine(l 13 _ a.out.src).mono ?_;clear i;rintro e J ⟨rfl,f,d⟩;obtain⟨a,i⟩:=rdK a f d;clear f d))
   go_end0;rw[m.out];exact⟨a.out.but,rfl,a.out.src⟩
  ·have m:Hid (R=.error (8,(p:Int))):=by
    show _=_;have L:(p:Int)=s.lim:=k.2;have M:p<s.bs.length:=k.1;rw[<-j.out,spF,List.getElem?_eq_getElem M];simp[L]
   have D:=qd2 wr b {s with pos:=p} 32 a.out.src k;clear k j
   go_wp2_with(first
    |(go_at_call 196;refine D.mono ?_;clear D i;rintro e A ⟨rfl,d⟩))
   rw[m.out];exact⟨rfl,a.out.but.trans (But.of_below d),rfl⟩
  have E:s.bs[p]?=some c:=k.1;have F:¬(p:Int)=s.lim:=k.2;have l:=λ(x:Int) (V:World) (n:qad V b {s with pos:=p})=>qdM x n k;have K:∀V,qad V b {s with pos:=p}->Calls prog 186 #[.pointer (some ⟨b,0,none⟩)] V λe C=>e=.returned (.int .u8 c.toNat)/\qad C b {s with pos:=p+1}/\But b V C:=λV n=>qaw V b {s with pos:=p} c n k;have O:p<s.bs.length:=k.lt;rw[spF,E]at j;simp only[]at j;rw[if_neg F]at j;clear k E F;have o:True:=trivial;have q:True:=trivial;have r:True:=trivial;by_cases z:c.toNat=32\/c.toNat=9\/c.toNat=10\/c.toNat=13
  ·have m:Hid (spF s.bs s.lim g (p+1)=R):=by
    show _=_;rw[<-j.out,if_pos (by unfold quE;simpa using z)]
   clear j;rcases z with y|y|y|y
   all_goals
    first|have v:((c.toNat:Int)==32)=true:=(by simp;omega)|have v:=nec (c:=c) 32 (by omega)
    first|have w:((c.toNat:Int)==9)=true:=(by simp;omega)|have w:=nec (c:=c) 9 (by omega)
    first|have t:((c.toNat:Int)==10)=true:=(by simp;omega)|have t:=nec (c:=c) 10 (by omega)
    first|have u:((c.toNat:Int)==13)=true:=(by simp;omega)|have u:=nec (c:=c) 13 (by omega)
    clear y
    go_wp2_with(first
     |(go_at_call 196;clear o;refine(l 32 _ a.out.src).mono ?_;clear i;rintro e A ⟨rfl,f,d⟩;rw[v];obtain⟨a,i⟩:=rdK a f d;clear f d)
     |(go_at_call 196;clear q;refine(l 9 _ a.out.src).mono ?_;clear i;rintro e H ⟨rfl,f,d⟩;rw[w];obtain⟨a,i⟩:=rdK a f d;clear f d)
     |(go_at_call 196;clear r;refine(l 10 _ a.out.src).mono ?_;clear i;rintro e I ⟨rfl,f,d⟩;rw[t];obtain⟨a,i⟩:=rdK a f d;clear f d)
     |(go_at_call 196;refine(l 13 _ a.out.src).mono ?_;clear i;rintro e J ⟨rfl,f,d⟩;rw[u];obtain⟨a,i⟩:=rdK a f d;clear f d)
     |(go_at_call 186;refine(K _ a.out.src).mono ?_;clear i;rintro e Q ⟨rfl,f,d⟩;obtain⟨a,i⟩:=rdK a f d;clear f d))
    go_roundg g
    case measure=>omega
    case rel=>exact⟨p+1,by show _=_;have:=G.out;omega,O,a,m⟩
  have m:Hid (R=.ok ((),p)):=by
   show _=_;rw[<-j.out,if_neg (by unfold quE;simpa using z)]
  clear j;have v:=nec (c:=c) 32 (by omega);have w:=nec (c:=c) 9 (by omega);have t:=nec (c:=c) 10 (by omega);have u:=nec (c:=c) 13 (by omega);clear z
  go_wp2_with(first
   |(go_at_call 196;clear o;refine(l 32 _ a.out.src).mono ?_;clear i;rintro e A ⟨rfl,f,d⟩;rw[v];obtain⟨a,i⟩:=rdK a f d;clear f d)
   |(go_at_call 196;clear q;refine(l 9 _ a.out.src).mono ?_;clear i;rintro e H ⟨rfl,f,d⟩;rw[w];obtain⟨a,i⟩:=rdK a f d;clear f d)
   |(go_at_call 196;clear r;refine(l 10 _ a.out.src).mono ?_;clear i;rintro e I ⟨rfl,f,d⟩;rw[t];obtain⟨a,i⟩:=rdK a f d;clear f d)
   |(go_at_call 196;refine(l 13 _ a.out.src).mono ?_;clear i;rintro e J ⟨rfl,f,d⟩;rw[u];obtain⟨a,i⟩:=rdK a f d;clear f d))
  go_end0;rw[m.out];exact⟨a.out.but,rfl,a.out.src⟩

def qsf(s:Src):Except (Int×Int) (Unit×Nat) :=
 match s.bs[s.pos]? with
 |none=>.ok ((),s.pos)
 |some _=>if(s.pos:Int)=s.lim then .error (8,s.pos)else .error (9,s.pos)
theorem qht(W:World)(b:Nat)(s:Src)(h:qad W b s):Calls prog 182 #[.pointer (some ⟨b,0,none⟩)] W (qbU W b s (λ_:Unit=>.tuple #[]) (qsf s)):=by
 obtain⟨R,i⟩:∃R,Hid (qsf s=R):=⟨_,show _=_ from rfl⟩
 rw[i.out];have d:=i.out;unfold qsf at d;rcases qaR h with a|a|⟨c,a⟩
 ·have g:Hid (R=.ok ((),s.pos)):=by
   show _=_;rw[List.getElem?_eq_none (by have:s.pos=s.bs.length:=a;omega)]at d;exact d.symm
  have f:=qge W b s h a;have j:=qab h;clear d i h a;go_enter func182,ntmps182
  go_wp2_with(first
   |(go_at_call 185;refine f.mono ?_;clear f;rintro e m ⟨rfl,n,rfl⟩))
  go_end0;rw[g.out];exact⟨But.of_below (qao W n),rfl,j.out.drewN n⟩
 ·have g:Hid (R=.error (8,(s.pos:Int))):=by
   show _=_;rw[List.getElem?_eq_getElem a.1]at d;simp only[]at d;rw[if_pos a.2]at d;exact d.symm
  have f:=qeA W b s h a.1 a.2;clear d i h a;go_enter func182,ntmps182
  go_wp2_with(first
   |(go_at_call 185;refine f.mono ?_;clear f;rintro e m ⟨hF,n,rfl⟩;obtain rfl:=hF))
  rw[g.out];exact⟨rfl,But.of_below (qao W n),rfl⟩
 have g:Hid (R=.error (9,(s.pos:Int))):=by
  show _=_;rw[a.1]at d;simp only[]at d;rw[if_neg a.2]at d;exact d.symm
 have f:=qeT W b s h a.lt a.2;have r:=λV (t:qad V b s)=>qaw V b s c t a;have j:=qab h;have v:=a.lt;have u:=h.len;unfold maxLen at u;clear d i h a;go_enter func182,ntmps182
 go_wp2_with(first
  |(go_at_call 185;refine f.mono ?_;clear f;rintro e m ⟨rfl,n,rfl⟩;have p:=qab (j.out.drewN n))
  |(go_at_call 186;refine(r _ p.out).mono ?_;rintro e w ⟨rfl,l,k⟩;have q:=qab l;have o:=qab k;clear l k)
  |(go_at_call 187;refine(qau _ b s.next _ q.out).mono ?_;rintro e x ⟨hF,rfl⟩;obtain rfl:=hF))
 rw[g.out];exact⟨rfl,(But.of_below (qao W n)).trans o.out,by show qan _ _ _;unfold qan qd5 Src.next;simp⟩
def qqp(z:Int):Value:=.iface 219 (.int .i64 z)
theorem qj5(W:World)(b:Nat)(s:Src)(c:UInt8)(h:qad W b s)(v:qgu s c)(m:c.toNat=45\/qbO c=true):Calls prog 188 #[.agg #[.pointer (some ⟨b,0,none⟩)]] W (qbU W b s qqp (qeq s.next c)):=by
 have k:=qab (qaX h);have i:=k.out.cell;have l:=qaw _ b s c k.out.src v;have u:=λV (G:qad V b s.next)=>qhF V b s.next c G m
 obtain⟨R,p⟩:∃R,Hid (qeq s.next c=R):=⟨_,show _=_ from rfl⟩
 rw[p.out];have g:∀V,qad V b s.next->Calls prog 195 #[.agg #[.pointer (some ⟨b,0,none⟩)],.int .u8 c.toNat] V (qbU V b s.next (λz:Int=>.int .i64 z) R):=by rw[<-p.out];exact u
 have H:(c.toNat:Int)=45\/(48<=(c.toNat:Int)/\(c.toNat:Int)<=57):=by
  rcases m with m|m
  ·left;omega
  right;exact of_decide_eq_true m
 have x:¬(c.toNat:Int)=110:=by omega
 have y:¬(c.toNat:Int)=116:=by omega
 have A:¬(c.toNat:Int)=102:=by omega
 have B:¬(c.toNat:Int)=34:=by omega
 have C:¬(c.toNat:Int)=91:=by omega
 have D:¬(c.toNat:Int)=123:=by omega
 clear u p m v h;have K:=beq_eq_false_iff_ne.2 x;have L:=beq_eq_false_iff_ne.2 y;have M:=beq_eq_false_iff_ne.2 A;have N:=beq_eq_false_iff_ne.2 B;have O:=beq_eq_false_iff_ne.2 C;have P:=beq_eq_false_iff_ne.2 D;clear x y A B C D;rcases H with n|n
 ·have E:=beq_iff_eq.2 n;clear n;rcases hR2:R with⟨F,I⟩|⟨z,q⟩
  ·have o:=qab hR2;rw[hR2]at g;clear hR2;go_enter func188,ntmps188
   go_wp2_with(first
    |(go_at_call 186;refine l.mono ?_;clear l i;rintro e r ⟨rfl,f,a⟩;have j:=qab (k.out.step f a);clear k f a;have d:=j;clear j;have i:=d.out.cell)
    |(go_at_call 195;refine(g _ d.out.src).mono ?_;clear g i;rintro e t ⟨a,hF⟩;obtain rfl:=hF))
   exact⟨rfl,d.out.but.trans a,rfl⟩
  have o:=qab hR2;rw[hR2]at g;clear hR2;go_enter func188,ntmps188
  go_wp2_with(first
   |(go_at_call 186;refine l.mono ?_;clear l i;rintro e r ⟨rfl,f,a⟩;have j:=qab (k.out.step f a);clear k f a;have d:=j;clear j;have i:=d.out.cell)
   |(go_at_call 195;refine(g _ d.out.src).mono ?_;clear g i;rintro e t ⟨a,rfl,f⟩))
  go_ret;exact⟨d.out.but.trans a,rfl,f⟩
 have w:=decide_eq_true n;have E:((c.toNat:Int)==45)=false:=beq_eq_false_iff_ne.2 (by omega);clear n;rcases hR2:R with⟨F,I⟩|⟨z,q⟩
 ·have o:=qab hR2;rw[hR2]at g;clear hR2;go_enter func188,ntmps188
  go_wp2_with(first
   |(go_at_call 186;refine l.mono ?_;clear l i;rintro e r ⟨rfl,f,a⟩;have j:=qab (k.out.step f a);clear k f a;have d:=j;clear j;have i:=d.out.cell)
   |(go_at_call 194;refine(qbr c _).mono ?_;rintro e J ⟨rfl,rfl⟩;rw[w])
   |(go_at_call 195;refine(g _ d.out.src).mono ?_;clear g i;rintro e t ⟨a,hF⟩;obtain rfl:=hF))
  exact⟨rfl,d.out.but.trans a,rfl⟩
 have o:=qab hR2;rw[hR2]at g;clear hR2;go_enter func188,ntmps188
 go_wp2_with(first
  |(go_at_call 186;refine l.mono ?_;clear l i;rintro e r ⟨rfl,f,a⟩;have j:=qab (k.out.step f a);clear k f a;have d:=j;clear j;have i:=d.out.cell)
  |(go_at_call 194;refine(qbr c _).mono ?_;rintro e J ⟨rfl,rfl⟩;rw[w])
  |(go_at_call 195;refine(g _ d.out.src).mono ?_;clear g i;rintro e t ⟨a,rfl,f⟩))
 go_ret;exact⟨d.out.but.trans a,rfl,f⟩

structure qav(W:World)(ia:Option Addr)(bs:List UInt8):Prop where
 at_:∀i (h:i<bs.length),∃g off,ia=some ⟨g,off,none⟩/\g<W.heap.size/\W.cell? ⟨g,off+i,none⟩=some (.int .u8 (bs[i]'h).toNat)
 len:bs.length<=maxLen
theorem qav.below(h:qav W ia bs)(b:Below W.heap.size W W'):qav W' ia bs :=
 ⟨λi e=>by
  obtain⟨g,off,c,a,d⟩:=h.at_ i e;exact⟨g,off,c,Nat.lt_of_lt_of_le a b.size,(b.cell (p:=⟨g,off+i,none⟩) a).trans d⟩,h.len⟩
theorem ql4{cap:Nat}{d l:Int}(h:qav W ia bs)(f:Below W.heap.size W W')(m:W.heap.size<=b)(k:W'.heap[b]?=some (.cells (Src.arr ⟨ia,bs,cap,d,l,0,0⟩) 128)):qad W' b ⟨ia,bs,cap,d,l,0,0⟩ :=
 ⟨k,λi j=>by
  obtain⟨g,off,a,c,e⟩:=h.at_ i j;exact⟨g,off,a,by omega,(f.cell (p:=⟨g,off+i,none⟩) c).trans e⟩,h.len,Nat.zero_le _⟩
theorem qed(W:World)(a:Option Addr)(bs:List UInt8)(c:Nat)(d l:Int)(h:qav W a bs):Calls prog 32 #[.int .i64 1,.agg #[.int .i64 d,.int .i64 l],.slice a bs.length c] W λe f =>
   ∃b,e=.returned (.iface 130 (.agg #[.pointer (some ⟨b,0,none⟩)]))/\qad f b ⟨a,bs,c,d,l,0,0⟩/\W.heap.size<=b/\Below W.heap.size W f:=by
 have j:=qab h;go_enter func32,ntmps32;go_wp2;go_ret;have g:Below W.heap.size W ((W.alloc (.cells #[.int .i64 d,.int .i64 l] 54)).alloc (.cells #[.slice a bs.length c,.int .i64 d,.int .i64 l,.int .i64 0,.int .i64 0] 128)):=(bwA).alloc (by simp) _;have i:=qac (W.alloc (.cells #[.int .i64 d,.int .i64 l] 54)) (.cells #[.slice a bs.length c,.int .i64 d,.int .i64 l,.int .i64 0,.int .i64 0] 128);rw[World.size_alloc]at i;exact⟨W.heap.size+1,rfl,ql4 j.out g (by omega) i,by omega,g⟩
theorem qa6{V V':World}(h:Below W.heap.size W V)(a:But b V V')(d:W.heap.size<=b):Below W.heap.size W V' :=
 ⟨a.os.trans h.os,a.tape.trans h.tape,a.output.trans h.output,Nat.le_trans h.size a.size,λk c=>(a.block k (by have:=h.size;omega) (by omega)).trans (h.block k c)⟩
def qnJ{α:Type}(W:World)(val:α->Value)(r:Except (Int×Int) α)(e:Ending)(W':World):Prop :=
 Below W.heap.size W W'/\match r with
 |.ok z=>e=.returned (val z)
 |.error (en,pl)=>qan en pl e
theorem qca{α:Type}{P:Program}{o:Oper}{a:Act}{K:Act->World->Prop}{Q:Exit->Act->World->Prop}{x:Result α}{y:α}{w:World}{k:α->World->Result Next}(h:x=.ok y w)(b:o.upon P a K Q (k y w)):o.upon P a K Q (x.andThen k):=by rw[h];exact b

end
end Go.Proofs.YtpifimohecagoaaGreatDoor
