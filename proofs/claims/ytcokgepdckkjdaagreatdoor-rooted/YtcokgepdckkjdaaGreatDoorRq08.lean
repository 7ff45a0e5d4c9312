import Derived.Test.YtcokgepdckkjdaaGreatDoorRq02
set_option maxRecDepth 100000
set_option maxHeartbeats 8000000
namespace Go.Proofs.YtcokgepdckkjdaaGreatDoor
open Go.Proofs.Tryz
variable {c:UInt8}{p:Nat}{bs:List UInt8}{l lim:Int}
section
open Go.RowKit
def qqh (c:UInt8):Option Nat:=if qcQ c=true then some (c.toNat-48) else if 97<=c.toNat/\c.toNat<=102 then some (c.toNat-87) else if 65<=c.toNat/\c.toNat<=70 then some (c.toNat-55) else none
theorem qnW {d:Nat}(h:qqh c=some d):d<16:=by
 unfold qqh at h;split at h
 ·next hd=>have:=of_decide_eq_true hd;cases h;omega
 split at h
 ·cases h;omega
 split at h
 ·cases h;omega
 cases h
def qqq (c:UInt8):Value:=match qqh c with
 |some d=>.tuple #[.int .i32 d,.bool true]
 |none=>.tuple #[.int .i32 0,.bool false]
theorem qkh (c:UInt8)(w:World):Calls prog 256 #[.int .u8 c.toNat] w fun e l=>e=.returned (qqq c)/\l=w:=by
 have b:=qbg c w;have p:=c.toNat_lt;by_cases g:48<=(c.toNat:Int)/\(c.toNat:Int)<=57
 ·have a:Hid (qqq c=.tuple #[.int .i32 ((c.toNat:Int)-48),.bool true]):=by
   show _=_;unfold qqq qqh;rw[if_pos (show qcQ c=true from decide_eq_true g)];simp only[];rw[show((c.toNat-48:Nat):Int)=(c.toNat:Int)-48 by omega]
  have d:=decide_eq_true g;rw[d] at b;go_enter func256,ntmps256
  go_wp2_with (first|(go_at_call 234;refine b.mono ?_;rintro e i ⟨rfl,rfl⟩))
  go_ret2
  rw[a.out];exact⟨rfl,rfl⟩
 have d:=decide_eq_false g;have h:qcQ c=false:=d;rw[d] at b;by_cases f:97<=c.toNat/\c.toNat<=102
 ·have a:Hid (qqq c=.tuple #[.int .i32 ((c.toNat:Int)-97+10),.bool true]):=by
   show _=_;unfold qqq qqh;rw[if_neg (by rw[h];simp),if_pos f];simp only[];rw[show((c.toNat-87:Nat):Int)=(c.toNat:Int)-97+10 by omega]
  have k:decide (97<=(c.toNat:Int))=true:=by simp;omega
  have m:decide ((c.toNat:Int)<=102)=true:=by simp;omega
  go_enter func256,ntmps256
  go_wp2_with (first|(go_at_call 234;refine b.mono ?_;rintro e i ⟨rfl,rfl⟩))
  go_ret2
  rw[a.out];exact⟨rfl,rfl⟩
 by_cases j:65<=c.toNat/\c.toNat<=70
 ·have a:Hid (qqq c=.tuple #[.int .i32 ((c.toNat:Int)-65+10),.bool true]):=by
   show _=_;unfold qqq qqh;rw[if_neg (by rw[h];simp),if_neg f,if_pos j];simp only[];rw[show((c.toNat-55:Nat):Int)=(c.toNat:Int)-65+10 by omega]
  have k:decide (97<=(c.toNat:Int))=false:=by simp;omega
  have n:decide (65<=(c.toNat:Int))=true:=by simp;omega
  have o:decide ((c.toNat:Int)<=70)=true:=by simp;omega
  go_enter func256,ntmps256
  go_wp2_with (first|(go_at_call 234;refine b.mono ?_;rintro e i ⟨rfl,rfl⟩))
  go_ret2
  rw[a.out];exact⟨rfl,rfl⟩
 have a:Hid (qqq c=.tuple #[.int .i32 0,.bool false]):=by
  show _=_;unfold qqq qqh;rw[if_neg (by rw[h];simp),if_neg f,if_neg j]
 go_enter func256,ntmps256
 go_wp2_with (first|(go_at_call 234;refine b.mono ?_;rintro e i ⟨rfl,rfl⟩))
 all_goals first
  |(exfalso;omega)
  |(go_ret2;rw[a.out];exact⟨rfl,rfl⟩)
def qgA (bs:List UInt8)(lim:Int):Nat->Nat->Nat->Except (Int×Int) (Nat×Nat)
 |0,p,a=>.ok (a,p)
 |k+1,p,a=>match bs[p]? with
  |none=>.error (9,p)
  |some c=>if (p:Int)=lim then .error (8,p) else match qqh c with
   |none=>.error (9,p)
   |some d=>qgA bs lim k (p+1) (a*16+d)
theorem qgd (W:World)(b:Nat)(s:Src)(h:qad W b s):Calls prog 252 #[.agg #[.pointer (some ⟨b,0,none⟩)]] W (qbJ W b s (fun x:Nat=>.int .i32 x) (qgA s.bs s.lim 4 s.pos 0)):=by
 have D:=qaa (qaR h);obtain⟨R,j⟩:∃R,Hid (qgA s.bs s.lim 4 s.pos 0=R):=⟨_,show _=_ from rfl⟩
 rw[j.out];go_enter func252,ntmps252;go_wp2;generalize W.alloc (.cells #[.pointer (some ⟨b,0,none⟩)] 213)=W0 at *
 go_loopg [3,6] 4 (fun m y z wr=>∃(k g:Nat),y=.int .i32 g/\z=.int .i64 k/\Hid (m+k=4)/\Hid (g<16^k)/\Hid (qno W b W.heap.size {s with pos:=s.pos+k} wr)/\Hid (qgA s.bs s.lim m (s.pos+k) g=R))
 case atStart=>exact⟨0,0,rfl,rfl,rfl,by show 0<1;decide,D,j⟩
 case round =>
  obtain⟨k,g,rfl,rfl,t,A,a,j⟩:=hrel;have I:=a.out.cell
  cases gk with
  |zero =>
   have e:k=4:=by have:=t.out;omega
   subst e;have i:Hid (R=.ok (g,s.pos+4)):=j.out.symm;go_wp2;go_ret;rw[i.out];exact⟨a.out.but,rfl,a.out.src⟩
  |succ m =>
   have M:k<4:=by have:=t.out;omega
   have N:decide ((k:Int)<4)=true:=by simp;omega
   have K:g<4096:=Nat.lt_of_lt_of_le A.out (Nat.le_trans (Nat.pow_le_pow_right (by decide) (show k<=3 from by omega)) (by decide));rcases qaM a.out.src with f|f|⟨c,f⟩
   ·have i:Hid (R=.error (9,((s.pos+k:Nat):Int))):=by
     show _=_;rw[<-j.out,qgA,List.getElem?_eq_none (by have:s.pos+k=s.bs.length:=f;omega)]
    have o:=qbm _ b {s with pos:=s.pos+k} a.out.src f
    go_wp2_with (first
     |(go_at_call 226;refine o.mono ?_;rintro e u ⟨hF,l⟩;obtain rfl:=hF))
    rw[i.out];exact⟨rfl,a.out.but.trans (But.of_below l),rfl⟩
   ·have i:Hid (R=.error (8,((s.pos+k:Nat):Int))):=by
     show _=_;have E:((s.pos+k:Nat):Int)=s.lim:=f.2;have F:s.pos+k<s.bs.length:=f.1;rw[<-j.out,qgA,List.getElem?_eq_getElem F];simp only[];rw[if_pos E]
    have o:=qaP _ b {s with pos:=s.pos+k} a.out.src f
    go_wp2_with (first
     |(go_at_call 226;refine o.mono ?_;rintro e u ⟨hF,l⟩;obtain rfl:=hF))
    rw[i.out];exact⟨rfl,a.out.but.trans (But.of_below l),rfl⟩
   have G:s.bs[s.pos+k]? = some c:=f.1;have H:¬((s.pos+k:Nat):Int)=s.lim:=f.2;have n:=j.out;rw[qgA,G] at n;simp only[] at n;rw[if_neg H] at n;have q:=fun w=>qkh c w;unfold qqq at q;have o:Calls prog 226 #[.pointer (some ⟨b,0,none⟩)] wr fun e v=>e=.returned (.int .u8 c.toNat)/\qad v b {s with pos:=s.pos+(k+1)}/\But b wr v:=qau _ b {s with pos:=s.pos+k} c a.out.src f;rcases hv:qqh c with _|d
   ·rw[hv] at n q;have i:Hid (R=.error (9,((s.pos+k:Nat):Int))):=n.symm
    go_wp2_with (first
     |(go_at_call 226;refine o.mono ?_;rintro e u ⟨rfl,r,l⟩;have p:=qaa (a.out.step r l);have I:=p.out.cell)
     |(go_at_call 256;refine(q _).mono ?_;rintro e J ⟨rfl,rfl⟩)
     |(go_at_call 227;refine(qat _ b {s with pos:=s.pos+(k+1)} _ p.out.src).mono ?_;rintro e O ⟨hF,rfl⟩;obtain rfl:=hF))
    rw[i.out];exact⟨rfl,p.out.but,by show qao _ _ _;unfold qao qeh;simp;omega⟩
   rw[hv] at n q;have C:Hid (qgA s.bs s.lim m (s.pos+(k+1)) (g*16+d)=R):=n;have L:=qnW hv;have B:Hid (g*16+d<16^(k+1)):=by show _<_;rw[Nat.pow_succ];have:=A.out;omega
   go_wp2_with (first
    |(go_at_call 226;refine o.mono ?_;rintro e u ⟨rfl,r,l⟩;have p:=qaa (a.out.step r l))
    |(go_at_call 256;refine(q _).mono ?_;rintro e J ⟨rfl,rfl⟩))
   go_roundg m
   case measure=>omega
   case rel=>exact⟨k+1,g*16+d,by simp,by go_num,by show _=_;have:=t.out;omega,B,p,C⟩

def qaT (bs:List UInt8)(lim:Int):List UInt8->Nat->Except (Int×Int) (Unit×Nat)
 |[],p=>.ok ((),p)
 |x::xs,p=>match bs[p]? with
  |none=>.error (9,p)
  |some c=>if (p:Int)=lim then .error (8,p) else if c=x then qaT bs lim xs (p+1) else .error (9,p)
theorem qbv (W:World)(b:Nat)(s:Src)(l:List UInt8)(hl:l.length<=100)(h:qad W b s):Calls prog 230 #[.agg #[.pointer (some ⟨b,0,none⟩)],.string ⟨l.toArray⟩] W (qbJ W b s (fun _:Unit=>.tuple #[]) (qaT s.bs s.lim l s.pos)):=by
 have H:=qaa (qaR h);obtain⟨R,p⟩:∃R,Hid (qaT s.bs s.lim l s.pos=R):=⟨_,show _=_ from rfl⟩
 rw[p.out];go_enter func230,ntmps230;go_wp2;generalize W.alloc (.cells #[.pointer (some ⟨b,0,none⟩)] 213)=W0 at *
 go_loopg [4,7] l.length (fun m _ z wr=>∃(k:Nat),z=.int .i64 k/\Hid (m+k=l.length)/\Hid (qno W b W.heap.size {s with pos:=s.pos+k} wr)/\Hid (qaT s.bs s.lim (l.drop k) (s.pos+k)=R))
 case atStart=>exact⟨0,rfl,rfl,H,p⟩
 case round =>
  obtain⟨k,rfl,A,g,p⟩:=hrel;have Z:=g.out.cell
  cases gk with
  |zero =>
   have e:k=l.length:=by have:=A.out;omega
   have f:Hid (R=.ok ((),s.pos+k)):=by
    show _=_;rw[<-p.out,List.drop_eq_nil_of_le (by omega)];rfl
   have I:decide ((k:Int)<(l.length:Int))=false:=by simp;omega
   have J:decide (k<l.length)=false:=by simp;omega
   go_wp2;go_end0;rw[f.out];exact⟨g.out.but,rfl,g.out.src⟩
  |succ m =>
   have w:k<l.length:=by have:=A.out;omega
   have I:decide ((k:Int)<(l.length:Int))=true:=by simp;omega
   have J:decide (k<l.length)=true:=by simp;omega
   obtain⟨x,D⟩:∃x,l[k]=x:=⟨_,rfl⟩
   have X:l.drop k=x::l.drop (k+1):=by rw[List.drop_eq_getElem_cons w,D]
   have F:Hid (l[k]? = some x):=by show _=_;rw[List.getElem?_eq_getElem w,D]
   have t:{wr with drawn:=wr.drawn+1}.cell? ⟨W.heap.size,0,none⟩=some (.pointer (some ⟨b,0,none⟩)):=Z;have u:Hid (qad {wr with drawn:=wr.drawn+1} b {s with pos:=s.pos+k}):=g.out.src.drewN 1;have y:Hid (But b wr {wr with drawn:=wr.drawn+1}):=But.of_below (qam wr 1);have d:=p.out;rw[X,qaT] at d;go_wp2;refine wp_region_held (S:=fun V=>V.cell? ⟨W.heap.size,0,none⟩=some (.pointer (some ⟨b,0,none⟩))) (by kernel_rfl) ?_;refine wpAnyH_take (i:=0) (v:=.pointer (some ⟨W.heap.size,0,none⟩)) rfl (by kernel_rfl) (by kernel_rfl) (by kernel_rfl) (fun _ _ _ h=>h) (.inl ⟨rfl,fun V n=>rfl⟩) t ?_;refine wpAnyH_take (i:=1) (v:=.pointer (some ⟨b,0,none⟩)) rfl (by kernel_rfl) (by kernel_rfl) (by kernel_rfl) (fun _ _ _ h=>h) (.inl ⟨rfl,fun V n => ?y1⟩) t ?_
   case y1=>go_simp
   refine wpAnyH_take (i:=3) (v:=.string ⟨l.toArray⟩) rfl (by kernel_rfl) (by kernel_rfl) (by kernel_rfl) (fun _ _ _ h=>h) (.inl ⟨rfl,fun V n=>rfl⟩) t ?_;refine wpAnyH_take (i:=4) (v:=.int .i64 k) rfl (by kernel_rfl) (by kernel_rfl) (by kernel_rfl) (fun _ _ _ h=>h) (.inl ⟨rfl,fun V n=>rfl⟩) t ?_;refine wpAnyH_take (i:=5) (v:=.int .u8 x.toNat) rfl (by kernel_rfl) (by kernel_rfl) (by kernel_rfl) (fun _ _ _ h=>h) (.inl ⟨rfl,fun V n => ?y5⟩) t ?_
   case y5 =>
    have Y:=Option.some.inj ((List.getElem?_eq_getElem w).symm.trans F.out);go_simp;show(((l.toArray)[k]'(by simpa using w)).toNat:Int)=_;rw[List.getElem_toArray,Y]
   refine rdH 2 rfl (by kernel_rfl) (fun K N => ?_);rcases qaM u.out with a|a|⟨c,a⟩
   ·have f:Hid (R=.error (9,((s.pos+k:Nat):Int))):=by
     show _=_;rw[<-d,List.getElem?_eq_none (by have:s.pos+k=s.bs.length:=a;omega)]
    have q:=qbm _ b {s with pos:=s.pos+k} u.out a;go_simp;refine q.mono ?_;rintro e E ⟨hF,r⟩;obtain rfl:=hF;exact⟨rfl,(g.out.but.trans y.out).trans (But.of_below r),by rw[f.out];rfl⟩
   ·have f:Hid (R=.error (8,((s.pos+k:Nat):Int))):=by
     show _=_;have L:((s.pos+k:Nat):Int)=s.lim:=a.2;have M:s.pos+k<s.bs.length:=a.1;rw[<-d,List.getElem?_eq_getElem M];simp only[];rw[if_pos L]
    have q:=qaP _ b {s with pos:=s.pos+k} u.out a;go_simp;refine q.mono ?_;rintro e E ⟨hF,r⟩;obtain rfl:=hF;exact⟨rfl,(g.out.but.trans y.out).trans (But.of_below r),by rw[f.out];rfl⟩
   have P:s.bs[s.pos+k]? = some c:=a.1;have Q:¬((s.pos+k:Nat):Int)=s.lim:=a.2;rw[P] at d;simp only[] at d;rw[if_neg Q] at d;have q:Calls prog 226 #[.pointer (some ⟨b,0,none⟩)] {wr with drawn:=wr.drawn+1} fun e B=>e=.returned (.int .u8 c.toNat)/\qad B b {s with pos:=s.pos+(k+1)}/\But b {wr with drawn:=wr.drawn+1} B:=qau _ b {s with pos:=s.pos+k} c u.out a;go_simp;refine q.mono ?_;rintro e E ⟨rfl,O,r⟩;simp only[];have j:=qaa (g.out.step O (y.out.trans r));refine N.out _ _ j.out.cell (fun _ => ?_);have aa:=j.out.cell;by_cases o:c=x
   ·have T:((c.toNat:Int)==(x.toNat:Int))=true:=by rw[o];simp
    have U:c.toNat=x.toNat:=by rw[o]
    have G:Hid (qaT s.bs s.lim (l.drop (k+1)) (s.pos+(k+1))=R):=by show _=_;rw[<-d,if_pos o];rfl
    refine wpAnyH_take (i:=6) (v:=.bool false) rfl (by kernel_rfl) (by kernel_rfl) (by kernel_rfl) (fun _ _ _ h=>h) (.inl ⟨rfl,fun V n => ?y6⟩) j.out.cell ?_
    case y6=>(go_simp;first|done|omega|assumption|trace_state)
    refine wpAnyH_done (by kernel_rfl) ?_ _;go_wp2;go_roundg m
    case measure=>omega
    case rel=>exact⟨k+1,by go_num,by show _=_;have:=A.out;omega,j,G⟩
   have T:((c.toNat:Int)==(x.toNat:Int))=false:=by
    simp only[beq_eq_false_iff_ne,ne_eq];intro C;exact o (UInt8.toNat_inj.1 (by omega))
   have U:¬c.toNat=x.toNat:=fun C=>o (UInt8.toNat_inj.1 C);have f:Hid (R=.error (9,((s.pos+k:Nat):Int))):=by show _=_;rw[<-d,if_neg o]
   refine wpAnyH_take (i:=6) (v:=.bool true) rfl (by kernel_rfl) (by kernel_rfl) (by kernel_rfl) (fun _ _ _ h=>h) (.inl ⟨rfl,fun V n => ?y6⟩) j.out.cell ?_
   case y6=>(go_simp;first|done|omega|assumption|trace_state)
   refine wpAnyH_done (by kernel_rfl) ?_ _
   go_wp2_with (first
    |(go_at_call 227;refine(qat _ b {s with pos:=s.pos+(k+1)} _ j.out.src).mono ?_;rintro e w7 ⟨hF,rfl⟩;obtain rfl:=hF))
   rw[f.out];exact⟨rfl,j.out.but,by show qao _ _ _;unfold qao qeh;simp;omega⟩

def inV (bs:List UInt8)(fm d l:Int):Value:=.agg #[.string ⟨bs.toArray⟩,.int .i64 fm,.int .i64 d,.int .i64 l]
def qxS (bs:List UInt8)(l:Int)(i:Nat):Bool:=decide (i<bs.length)&&decide ((i:Int)<l)
def qr0 (bs:List UInt8)(l:Int)(i:Nat)(e:Int):Int×Int:=if l<=i/\i<bs.length then (8,i) else if bs.length<=i then (9,bs.length) else (e,i)
def q1Z (x:Int×Int):Value:=.agg #[.int .i64 x.1,.int .i64 x.2]
theorem qyo (bs:List UInt8):(⟨bs.toArray⟩:ByteArray).size=bs.length:=by
 show bs.toArray.size=_;simp
theorem qyI (W:World)(bs:List UInt8)(fm d l:Int)(i:Nat):Calls prog 43 #[inV bs fm d l,.int .i64 i] W fun e g=>e=.returned (.bool (qxS bs l i))/\Below W.heap.size W g:=by
 have m:=qyo bs;obtain⟨R,c⟩:∃R,Hid (qxS bs l i=R):=⟨_,show _=_ from rfl⟩
 rw[c.out];have a:=c.out;unfold qxS at a;unfold inV;by_cases f:i<bs.length
 ·have h:decide ((i:Int)<(bs.length:Int))=true:=by simp;omega
  have j:(i:Int)<(bs.length:Int):=by omega
  rw[decide_eq_true f,Bool.true_and] at a;cases b:decide ((i:Int)<l)
  ·rw[b] at a;subst a;have k:=of_decide_eq_false b;go_enter func43,ntmps43;go_wp2;go_ret;exact⟨rfl,bwA⟩
  rw[b] at a;subst a;have k:=of_decide_eq_true b;go_enter func43,ntmps43;go_wp2;go_ret;exact⟨rfl,bwA⟩
 have h:decide ((i:Int)<(bs.length:Int))=false:=by simp;omega
 have j:¬(i:Int)<(bs.length:Int):=by omega
 rw[decide_eq_false f,Bool.false_and] at a;subst a;go_enter func43,ntmps43;go_wp2;go_ret;exact⟨rfl,bwA⟩
theorem q1h:(prog.info? 57).map (·.size)=some 2:=by kernel_rfl
theorem qzg (V:World)(B s:Nat)(b:V.heap.size=B)(cs:Array Value)(c:cs.size=2)(a:Array Value)(d:a.getD s undef=.pointer (some ⟨B,0,none⟩)){fn:Func}(h:fn.results=#[.cell s 57]):(results fn a).run prog (V.alloc (.cells cs 57))=.ok (.agg cs) (V.alloc (.cells cs 57)) :=
 results_cell_row h a _ B 57 cs (0,0) _ d (by rw[<-b];exact qac _ _) underlying57 rfl (by rw[c];exact q1h)
theorem qy8 (W:World)(o a:Obj):Below W.heap.size W ((W.alloc o).alloc a):=(bwA).alloc (by simp) _
theorem qyn (W:World)(bs:List UInt8)(fm d l:Int)(i:Nat)(f:Int):Calls prog 31 #[inV bs fm d l,.int .i64 i,.int .i64 f] W fun e m=>e=.returned (q1Z (qr0 bs l i f))/\Below W.heap.size W m:=by
 have p:=qyo bs;obtain⟨R,h⟩:∃R,Hid (qr0 bs l i f=R):=⟨_,show _=_ from rfl⟩
 rw[h.out];have a:=h.out;unfold qr0 at a;unfold inV;by_cases b:l<=(i:Int)
 ·by_cases g:i<bs.length
  ·rw[if_pos ⟨b,g⟩] at a;subst a;have j:decide (l<=(i:Int))=true:=by simpa using b
   have n:(i:Int)<(bs.length:Int):=by omega
   have o:decide ((i:Int)<(bs.length:Int))=true:=by simp;omega
   go_enter func31,ntmps31;go_wp2;exact bodyPost_ret (qzg _ _ _ (by simp) _ rfl _ rfl results31) rfl ⟨rfl,qy8 _ _ _⟩
  rw[if_neg (fun c=>g c.2),if_pos (by omega)] at a;subst a;have j:decide (l<=(i:Int))=true:=by simpa using b
  have n:¬(i:Int)<(bs.length:Int):=by omega
  have o:decide ((i:Int)<(bs.length:Int))=false:=by simp;omega
  have k:(bs.length:Int)<=(i:Int):=by omega
  go_enter func31,ntmps31;go_wp2;exact bodyPost_ret (qzg _ _ _ (by simp) _ rfl _ rfl results31) rfl ⟨rfl,qy8 _ _ _⟩
 have j:decide (l<=(i:Int))=false:=by simpa using b
 by_cases g:i<bs.length
 ·rw[if_neg (fun c=>b c.1),if_neg (by omega)] at a;subst a;have k:¬(bs.length:Int)<=(i:Int):=by omega
  go_enter func31,ntmps31;go_wp2;exact bodyPost_ret (qzg _ _ _ (by simp) _ rfl _ rfl results31) rfl ⟨rfl,qy8 _ _ _⟩
 rw[if_neg (fun c=>b c.1),if_pos (by omega)] at a;subst a;have k:(bs.length:Int)<=(i:Int):=by omega
 go_enter func31,ntmps31;go_wp2;exact bodyPost_ret (qzg _ _ _ (by simp) _ rfl _ rfl results31) rfl ⟨rfl,qy8 _ _ _⟩
theorem q1b (W:World)(c:UInt8):Calls prog 44 #[.int .u8 c.toNat] W fun e j=>e=.returned (.bool (qxm c))/\j=W:=by
 obtain⟨R,i⟩:∃R,Hid (qxm c=R):=⟨_,show _=_ from rfl⟩
 rw[i.out];have a:=i.out;unfold qxm at a;have k:((c.toNat:Int)==32)=(c.toNat==32):=by cases h:(c.toNat==32) with|true=>simp at h;simp[h]|false=>simp at h;simp;omega
 have l:((c.toNat:Int)==9)=(c.toNat==9):=by cases h:(c.toNat==9) with|true=>simp at h;simp[h]|false=>simp at h;simp;omega
 have m:((c.toNat:Int)==10)=(c.toNat==10):=by cases h:(c.toNat==10) with|true=>simp at h;simp[h]|false=>simp at h;simp;omega
 have n:((c.toNat:Int)==13)=(c.toNat==13):=by cases h:(c.toNat==13) with|true=>simp at h;simp[h]|false=>simp at h;simp;omega
 cases b:(c.toNat==32)<;>cases d:(c.toNat==9)<;>cases f:(c.toNat==10)<;>cases g:(c.toNat==13)<;>rw[b,d,f,g] at a<;>rw[b] at k<;>rw[d] at l<;>rw[f] at m<;>rw[g] at n<;>clear b d f g
 all_goals have a:_=R:=a
 all_goals subst a
 all_goals go_enter func44,ntmps44
 all_goals go_wp2
 all_goals go_ret
 all_goals exact⟨rfl,rfl⟩

def skR (bs:List UInt8)(l:Int):Nat->Nat->Nat
 |0,p=>p
 |g+1,p=>match bs[p]? with
  |none=>p
  |some c=>if (p:Int)<l then (if qxm c=true then skR bs l g (p+1) else p) else p
theorem qxF (bs:List UInt8)(k:Nat)(c:UInt8)(a:bs[k]? = some c)(V:World):(Instr.index 9 (.string ⟨bs.toArray⟩) (.int .i64 (k:Int))).run prog V=.ok (.int .u8 c.toNat) V:=by
 have g:=ltL a;have b:=qyo bs;have f:(0:Int)<=(k:Int)/\(k:Int)<((⟨bs.toArray⟩:ByteArray).size:Int):=by rw[b];omega
 rw[run_index_string (h:=underlying9),dif_pos f];have d:(⟨bs.toArray⟩:ByteArray)[(k:Int).toNat]'(by rw[b];omega)=c:=by
  show bs.toArray[(k:Int).toNat]'(by simp;omega)=c;have e:=(List.getElem?_eq_some_iff.1 a).2;simp only[Int.toNat_natCast,List.getElem_toArray];exact e
 rw[d]
theorem qyt (W:World)(bs:List UInt8)(fm d l:Int)(i:Nat)(I:bs.length<=281474976710656)(hi:i<=bs.length):Calls prog 29 #[inV bs fm d l,.int .i64 i] W fun e v=>e=.returned (.int .i64 (skR bs l (bs.length+1-i) i))/\Below W.heap.size W v:=by
 obtain⟨R,o⟩:∃R,Hid (skR bs l (bs.length+1-i) i=R):=⟨_,show _=_ from rfl⟩
 rw[o.out];have h:Hid ((W.alloc (.cells #[.string ⟨bs.toArray⟩,.int .i64 fm,.int .i64 d,.int .i64 l] 77)).heap[W.heap.size]? = some (.cells #[.string ⟨bs.toArray⟩,.int .i64 fm,.int .i64 d,.int .i64 l] 77)):=qac _ _;have b:Hid (Below W.heap.size W (W.alloc (.cells #[.string ⟨bs.toArray⟩,.int .i64 fm,.int .i64 d,.int .i64 l] 77))):=bwA;have A:∀(V:World) (k:Nat),Calls prog 43 #[.agg #[.string ⟨bs.toArray⟩,.int .i64 fm,.int .i64 d,.int .i64 l],.int .i64 k] V fun e v=>e=.returned (.bool (qxS bs l k))/\Below V.heap.size V v:=fun V k=>qyI V bs fm d l k;unfold inV;go_enter func29,ntmps29;go_wp2;generalize W.alloc (.cells #[.string ⟨bs.toArray⟩,.int .i64 fm,.int .i64 d,.int .i64 l] 77)=W0 at *
 go_loopg [1] (bs.length+1-i) (fun g z wr=>∃k:Nat,z=.int .i64 k/\Hid (bs.length+1<=k+g)/\Hid (k<=bs.length)/\Hid (wr.heap[W.heap.size]? = some (.cells #[.string ⟨bs.toArray⟩,.int .i64 fm,.int .i64 d,.int .i64 l] 77))/\Hid (Below W.heap.size W wr)/\Hid (skR bs l g k=R))
 case atStart=>exact⟨i,rfl,by show _<=_;omega,hi,h,b,o⟩
 case round =>
  clear h b o;obtain⟨k,rfl,B,C,h,b,o⟩:=hrel;obtain⟨g,rfl⟩:∃g,gk=g+1:=⟨gk-1,by have:=B.out;have:=C.out;omega⟩
  have K:=C.out;have s:=qab h.out 0;have x:=qab h.out 1;have c2:=qab h.out 2;have y:=qab h.out 3;have E:=ltA h.out;have a:=o.out;rw[skR] at a;have f:=A wr k;clear o A
  cases m:bs[k]? with
  |none =>
   rw[m] at a;simp only[] at a;have n:qxS bs l k=false:=by
    unfold qxS;rw[decide_eq_false (by have:=List.getElem?_eq_none_iff.1 m;omega)];rfl
   rw[n] at f;have q:=qaa a.symm;clear a m n
   go_wp2_with (first
    |(go_at_call 43;refine f.mono ?_;clear f;rintro e w ⟨rfl,j⟩))
   go_ret;rw[q.out];exact⟨rfl,b.out.trans (j.mono b.out.size)⟩
  |some c =>
   rw[m] at a;simp only[] at a;have D:=ltL m;have F:Hid (∀V,(Instr.index 9 (.string ⟨bs.toArray⟩) (.int .i64 (k:Int))).run prog V=.ok (.int .u8 c.toNat) V):=fun V=>qxF bs k c m V;by_cases t:(k:Int)<l
   ·rw[if_pos t] at a;have n:qxS bs l k=true:=by
     unfold qxS;rw[decide_eq_true D,decide_eq_true t];rfl
    rw[n] at f;have p:=fun V=>q1b V c;have J:=F.out;cases u:qxm c
    ·rw[u] at a p;have q:Hid (R=k):=a.symm;clear a m n u
     go_wp2_with (first
      |(go_at_call 43;refine f.mono ?_;clear f s x c2 y;rintro e w ⟨rfl,j⟩;have r:=(j.block _ E).trans h.out;have s:=qab r 0)
      |(go_at_call 44;refine(p _).mono ?_;clear p;rintro e H ⟨rfl,rfl⟩))
     go_ret;rw[q.out];exact⟨rfl,b.out.trans (j.mono b.out.size)⟩
    rw[u] at a p;have G:Hid (skR bs l g (k+1)=R):=a;clear a m n u
    go_wp2_with (first
     |(go_at_call 43;refine f.mono ?_;clear f s x c2 y;rintro e w ⟨rfl,j⟩;have r:=qaa ((j.block _ E).trans h.out);have s:=qab r.out 0)
     |(go_at_call 44;refine(p _).mono ?_;clear p;rintro e H ⟨rfl,rfl⟩))
    go_roundg g
    case measure=>omega
    case rel=>exact⟨k+1,by go_num,by show _<=_;have:=B.out;omega,D,r,b.out.trans (j.mono b.out.size),G⟩
   rw[if_neg t] at a;have n:qxS bs l k=false:=by
    unfold qxS;rw[decide_eq_false t,Bool.and_false]
   rw[n] at f;have q:=qaa a.symm;clear a m n
   go_wp2_with (first
    |(go_at_call 43;refine f.mono ?_;clear f;rintro e w ⟨rfl,j⟩))
   go_ret;rw[q.out];exact⟨rfl,b.out.trans (j.mono b.out.size)⟩

def qyS (bs:List UInt8)(l:Int)(i:Nat):Bool:=match bs[i]? with
 |none=>false
 |some c=>decide ((i:Int)<l)&&qcQ c
theorem qzz (W:World)(bs:List UInt8)(fm d l:Int)(i:Nat):Calls prog 100 #[inV bs fm d l,.int .i64 i] W fun e n=>e=.returned (.bool (qyS bs l i))/\Below W.heap.size W n:=by
 obtain⟨R,q⟩:∃R,Hid (qyS bs l i=R):=⟨_,show _=_ from rfl⟩
 rw[q.out];have f:=q.out;unfold qyS at f;have k:Hid ((W.alloc (.cells #[.string ⟨bs.toArray⟩,.int .i64 fm,.int .i64 d,.int .i64 l] 77)).heap[W.heap.size]? = some (.cells #[.string ⟨bs.toArray⟩,.int .i64 fm,.int .i64 d,.int .i64 l] 77)):=qac _ _;have g:Hid (Below W.heap.size W (W.alloc (.cells #[.string ⟨bs.toArray⟩,.int .i64 fm,.int .i64 d,.int .i64 l] 77))):=bwA;have j:Calls prog 43 #[.agg #[.string ⟨bs.toArray⟩,.int .i64 fm,.int .i64 d,.int .i64 l],.int .i64 i] (W.alloc (.cells #[.string ⟨bs.toArray⟩,.int .i64 fm,.int .i64 d,.int .i64 l] 77)) fun e n=>e=.returned (.bool (qxS bs l i))/\Below (W.alloc (.cells #[.string ⟨bs.toArray⟩,.int .i64 fm,.int .i64 d,.int .i64 l] 77)).heap.size (W.alloc (.cells #[.string ⟨bs.toArray⟩,.int .i64 fm,.int .i64 d,.int .i64 l] 77)) n:=qyI _ bs fm d l i;have o:=ltA k.out;unfold inV;have w:qxS bs l i=false->R=false:=fun a=>by
  rw[<-f];unfold qxS at a
  cases m:bs[i]? with
  |none=>rfl
  |some c =>
   rw[decide_eq_true (ltL m),Bool.true_and] at a;simp only[];rw[a];rfl
 cases a:qxS bs l i
 ·have h:=qaa (w a);rw[a] at j;go_enter func100,ntmps100
  go_wp2_with (first
   |(go_at_call 43;refine j.mono ?_;rintro e p ⟨rfl,b⟩))
  go_ret;rw[h.out];exact⟨rfl,g.out.trans (b.mono g.out.size)⟩
 rw[a] at j;unfold qxS at a;rw[Bool.and_eq_true] at a;have v:=of_decide_eq_true a.1;obtain⟨c,m⟩:∃c,bs[i]? = some c:=⟨bs[i],List.getElem?_eq_getElem v⟩
 rw[m] at f;simp only[] at f;rw[a.2,Bool.true_and] at f;have x:=qxF bs i c m;unfold qcQ at f;by_cases s:(48:Int)<=(c.toNat:Int)
 ·by_cases t:(c.toNat:Int)<=57
  ·have h:Hid (R=true):=by show _=_;rw[<-f];exact decide_eq_true ⟨s,t⟩
   go_enter func100,ntmps100
   go_wp2_with (first
    |(go_at_call 43;refine j.mono ?_;rintro e p ⟨rfl,b⟩;have r:=qab ((b.block _ o).trans k.out) 0))
   go_ret;rw[h.out];exact⟨rfl,g.out.trans (b.mono g.out.size)⟩
  have h:Hid (R=false):=by show _=_;rw[<-f];exact decide_eq_false (fun a=>t a.2)
  go_enter func100,ntmps100
  go_wp2_with (first
   |(go_at_call 43;refine j.mono ?_;rintro e p ⟨rfl,b⟩;have r:=qab ((b.block _ o).trans k.out) 0))
  go_ret;rw[h.out];have u:decide ((c.toNat:Int)<=57)=false:=decide_eq_false (by omega);exact⟨by rw[u];rfl,g.out.trans (b.mono g.out.size)⟩
 have h:Hid (R=false):=by show _=_;rw[<-f];exact decide_eq_false (fun a=>s a.1)
 go_enter func100,ntmps100
 go_wp2_with (first
  |(go_at_call 43;refine j.mono ?_;rintro e p ⟨rfl,b⟩;have r:=qab ((b.block _ o).trans k.out) 0))
 go_ret;rw[h.out];exact⟨rfl,g.out.trans (b.mono g.out.size)⟩

def Lm (bs:List UInt8)(l lim:Int):Prop:=∀p:Nat,p<bs.length->((p:Int)<l↔(p:Int)<lim)
def InR (bs:List UInt8)(lim:Int)(p:Nat):Prop:=p<=bs.length/\(p:Int)<=lim
theorem qxX (h:bs[p]? = none):qxS bs l p=false:=by
 unfold qxS;rw[decide_eq_false (by have:=List.getElem?_eq_none_iff.1 h;omega)];rfl
theorem qyc (b:p<=bs.length)(h:bs[p]? = none)(e:Int):qr0 bs l p e=(9,(p:Int)):=by
 have:=List.getElem?_eq_none_iff.1 h;unfold qr0;rw[if_neg (fun a=>by omega),if_pos (by omega),show bs.length=p by omega]
theorem qxZ (b:Lm bs l lim)(h:bs[p]? = some c)(e:(p:Int)=lim):qxS bs l p=false:=by
 have a:=ltL h;have d:=b p a;unfold qxS;rw[decide_eq_false (p:=(p:Int)<l) (by omega),Bool.and_false]
theorem qxW (b:Lm bs l lim)(h:bs[p]? = some c)(f:(p:Int)=lim)(e:Int):qr0 bs l p e=(8,(p:Int)):=by
 have a:=ltL h;have d:=b p a;unfold qr0;rw[if_pos (by omega)]
theorem qyb (b:Lm bs l lim)(hi:InR bs lim p)(h:bs[p]? = some c)(f:¬(p:Int)=lim):qxS bs l p=true:=by
 have a:=ltL h;have d:=b p a;have e:=hi.2;unfold qxS;rw[decide_eq_true a,decide_eq_true (p:=(p:Int)<l) (by omega)];rfl
theorem qxN (b:Lm bs l lim)(hi:InR bs lim p)(h:bs[p]? = some c)(g:¬(p:Int)=lim)(e:Int):qr0 bs l p e=(e,(p:Int)):=by
 have a:=ltL h;have d:=b p a;have f:=hi.2;unfold qr0;rw[if_neg (by omega),if_neg (by omega)]
theorem qxG (hi:InR bs lim p)(h:bs[p]? = some c)(d:¬(p:Int)=lim):InR bs lim (p+1):=by
 have a:=ltL h;have b:=hi.2;exact⟨by omega,by omega⟩
def qyi {α:Type}(bs:List UInt8)(lim:Int)(r r':Except (Int×Int) (α×Nat)):Prop:=r=r'\/∃q:Nat,r=.error (8,(q:Int))/\(q:Int)=lim/\q<bs.length/\∃x,r'=.ok (x,q)
theorem qyV (n:Lm bs l lim):∀(g p:Nat),InR bs lim p->(∃q,spF bs lim g p=.ok ((),q)/\skR bs l g p=q/\InR bs lim q/\p<=q/\(bs.length+1<=p+g->∀f,spF bs lim f q=.ok ((),q)))\/(∃q:Nat,spF bs lim g p=.error (8,(q:Int))/\skR bs l g p=q/\(q:Int)=lim/\q<bs.length)
 |0,p,hi=>.inl ⟨p,rfl,rfl,hi,Nat.le_refl _,fun h=>absurd h (by have:=hi.1;omega)⟩
 |g+1,p,hi=>by
  rw[spF,skR]
  cases i:bs[p]? with
  |none =>
   refine .inl ⟨p,rfl,rfl,hi,Nat.le_refl _,fun _ f => ?_⟩
   cases f with
   |zero=>rfl
   |succ f=>rw[spF,i]
  |some c =>
   simp only[];by_cases j:(p:Int)=lim
   ·rw[if_pos j];have m:=ltL i;rw[if_neg (show ¬(p:Int)<l by have:=n p m;omega)];exact .inr ⟨p,rfl,rfl,j,m⟩
   rw[if_neg j];have m:=ltL i;rw[if_pos (show(p:Int)<l by have:=n p m;have:=hi.2;omega)];by_cases k:qxm c=true
   ·rw[if_pos k,if_pos k];rcases qyV n g (p+1) (qxG hi i j) with ⟨q,a,b,c,d,e⟩|h
    ·exact .inl ⟨q,a,b,c,by omega,fun o=>e (by omega)⟩
    exact .inr h
   rw[if_neg k,if_neg k];refine .inl ⟨p,rfl,rfl,hi,Nat.le_refl _,fun _ f => ?_⟩
   cases f with
   |zero=>rfl
   |succ f =>
    rw[spF,i];simp only[];rw[if_neg j,if_neg k]

end
end Go.Proofs.YtcokgepdckkjdaaGreatDoor
