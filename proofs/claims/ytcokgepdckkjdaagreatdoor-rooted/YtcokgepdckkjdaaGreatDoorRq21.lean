import Derived.Test.YtcokgepdckkjdaaGreatDoorRq19
set_option maxRecDepth 100000
set_option maxHeartbeats 8000000
namespace Go.Proofs.YtcokgepdckkjdaaGreatDoor
open Go.Proofs.Tryz
variable {A L b i j lm p r tb:Nat}{V V' W:World}{ks:List (List UInt8)}{sv:Value}{rs:List (List (Nat×List UInt8)×Int×Int)}{R:List (Nat×List UInt8)×Int×Int}{s:Nat×List UInt8}{st:Nat->Nat}{tk:Nat->Nat->Nat}{q:Aut}
section
open Go.RowKit
theorem tkU {P:Program}{ops:Array Oper}{Q:Exit->Act->World->Prop}{md:Region.Mode}{S:World->Prop}{oi:Oper}{fuel:Nat}{listed:Array Bool}{a:Act}{w:World}(i d:Nat)(hi:ops[i]? = some oi)(b:(Region.noSelect ops&&Region.free md ops listed i&&(Region.ready md ops listed).contains i&&oi.dst==some d && !Region.wanted oi (yielded ops a.tmps))=true)(e:∀c a w,Q (.panic c) (a.put (some d) undef) w->Q (.panic c) a w)(f:S w)(h:wpAnyH P md ops Q S fuel (listed.setIfInBounds i true) (a.put (some d) undef) w):wpAnyH P md ops Q S (fuel+1) listed a w:=by
 simp only[Bool.and_eq_true] at b;have g:oi.dst=some d:=by simpa using b.1.2
 rw[<-g] at e h;exact wpAnyH_take hi b.1.1.1.1 b.1.1.1.2 b.1.1.2 e (.inr ⟨by simpa using b.2,rfl⟩) f h
structure Bt (b:Nat)(W W':World):Prop where
 os:W'.os=W.os
 tape:W'.tape=W.tape
 output:W'.output=W.output
 size:W.heap.size<=W'.heap.size
 block:∀k,k<W.heap.size->k≠b->W'.heap[k]? = W.heap[k]?
theorem Bt.refl (b:Nat)(W:World):Bt b W W:=⟨rfl,rfl,rfl,Nat.le_refl _,fun _ _ _=>rfl⟩
theorem Bt.trans {A B C:World}(h:Bt b A B)(k:Bt b B C):Bt b A C :=
 ⟨k.os.trans h.os,k.tape.trans h.tape,k.output.trans h.output,Nat.le_trans h.size k.size,fun i a c=>(k.block i (Nat.lt_of_lt_of_le a h.size) c).trans (h.block i a c)⟩
theorem Bt.of_below {W':World}(h:Below W.heap.size W W'):Bt b W W':=⟨h.os,h.tape,h.output,h.size,fun k a _=>h.block k a⟩
structure qqj (W:World)(lm:Nat)(ks:List (List UInt8))(V:World):Prop where
 but:Bt lm W V
 names:ImK V lm ks
theorem qqj.next (h:qqj W lm ks V)(a:Below V.heap.size V V'):qqj W lm ks V' :=
 ⟨h.but.trans (Bt.of_below a),h.names.kept (row:=none) ⟨a.os,a.tape,a.output,a.size,fun i b _=>a.block i b⟩ (by simp)⟩
theorem Bt.low {W0:World}(h:Bt lm W V)(a:Below W0.heap.size W0 W)(c:W0.heap.size<=lm):Below W0.heap.size W0 V :=
 ⟨h.os.trans a.os,h.tape.trans a.tape,h.output.trans a.output,Nat.le_trans a.size h.size,fun i b=>(h.block i (Nat.lt_of_lt_of_le b a.size) (by omega)).trans (a.block i b)⟩
theorem Bt.cellA {u:Value}(h:Bt lm W V)(b:A<W.heap.size)(c:A≠lm)(a:W.cell? ⟨A,j,none⟩=some u):V.cell? ⟨A,j,none⟩=some u:=by
 have e:=h.block A b c;unfold World.cell? at a ⊢;rw[e];exact a
theorem wr2 (n:Nat)(h:n<=128):wrap64 (2+(n:Int))=((2+n:Nat):Int):=by
 unfold wrap64;omega
theorem qfV (D W:World)(A f:Nat)(ra:Option Addr)(rc:Nat)(rs:List (List (Nat×List UInt8)×Int×Int))(au:Below D.heap.size D W)(T:A<W.heap.size)(U:A≠f)(K:D.heap.size<=f)(hn:rs.length<=16)(h8:∀i (h:i<rs.length),rs[i].1.length<=8)(aw:∀i (h:i<rs.length) j (h2:j<rs[i].1.length),rs[i].1[j].2.length<=1000000000)(c0:W.cell? ⟨A,0,none⟩=some (.slice ra rs.length rc))(c2:W.cell? ⟨A,2,none⟩=some (.map (some f)))(hr:qdW D ra rs)(hm:ImK W f []):Calls prog 60 #[.pointer (some ⟨A,0,none⟩)] W fun aq W'=>aq=.returned (.tuple #[])/\qqj W f (qcl rs) W':=by
 have HR:=qaa hr;have Q:=qaa au;have HM:=qaa hm;go_enter func60,ntmps60;go_wp2
 go_loopg [12] rs.length (fun g z wr=>∃(k:Nat) (l:List (List UInt8)),z=.int .i64 k/\Hid (k+g=rs.length)/\Hid (qqj W f l wr)/\Hid (qcl rs=(rs.drop k).foldl qsz l)/\Hid (l.length<=8*k))
 case atStart=>exact⟨0,[],rfl,by show _=_;omega,⟨Bt.refl _ _,HM.out⟩,rfl,by show _<=_;simp⟩
 case round =>
  obtain⟨k,l,rfl,y,I,HK,P⟩:=hrel
  cases gk with
  |zero =>
   have ax:¬(k:Int)<(rs.length:Int):=by have:=y.out;omega
   have L:Hid (qcl rs=l):=by
    have h:=HK.out;rw[List.drop_eq_nil_of_le (by have:=y.out;omega)] at h;exact h
   go_wp2;go_end0;rw[L.out];exact⟨rfl,I.out⟩
  |succ g =>
   have F:k<rs.length:=by have:=y.out;omega
   have ax:(k:Int)<(rs.length:Int):=by omega
   obtain⟨ap,off,e,pc,rfl,hb,e0,e1,e2,a6⟩:=(HR.out.below (I.out.but.low Q.out K)).at_ k F;have al:Hid (qks D e rs[k].1):=by
    obtain⟨b',a8,ba,bb,X,av,f0,f1,f2,a0⟩:=HR.out.at_ k F;injection X with X;injection X with hab1 hab2;subst hab1;subst hab2;have w:=((I.out.but.low Q.out K).cell (p:=⟨ap,off+k*3,none⟩) av).trans f0;rw[e0] at w;injection w with w;injection w with w _ _;subst w;exact a0
   have a4:=h8 k F;have aj:=qaa (aw k F);have ai:Hid (qcl rs=(rs.drop (k+1)).foldl qsz (rs[k].1.foldl qhw l)):=by
    have h:=HK.out;rw[List.drop_eq_getElem_cons F] at h;exact h
   have ak:Hid (qqj W f l (wr.alloc (.cells #[.slice e rs[k].1.length pc,.int .i64 rs[k].2.1,.int .i64 rs[k].2.2] 164))):=I.out.next bwA
   go_wp2;generalize wr.alloc (.cells #[.slice e rs[k].1.length pc,.int .i64 rs[k].2.1,.int .i64 rs[k].2.2] 164)=V0 at *;generalize hss:rs[k].1=ss at *
   go_loopg [19] ss.length (fun E z ao=>∃(j:Nat) (d:List (List UInt8)),z=.int .i64 j/\Hid (j+E=ss.length)/\Hid (qqj W f d ao)/\Hid (ss.foldl qhw l=(ss.drop j).foldl qhw d)/\Hid (d.length<=l.length+j))
   case atStart=>exact⟨0,l,rfl,by show _=_;omega,ak,rfl,Nat.le_refl _⟩
   case round =>
    obtain⟨j,d,rfl,m,C,aa,t⟩:=hrel
    cases gk with
    |zero =>
     have ay:¬(j:Int)<(ss.length:Int):=by have:=m.out;omega
     have L:Hid (ss.foldl qhw l=d):=by
      have h:=aa.out;rw[List.drop_eq_nil_of_le (by have:=m.out;omega)] at h;exact h
     go_wp2;go_roundg g
     case measure=>omega
     case rel=>exact⟨k+1,d,by go_num,by show _=_;have:=y.out;omega,C,by have h:=ai.out;rw[L.out] at h;exact h,by show _<=_;have:=P.out;have:=t.out;have:=m.out;omega⟩
    |succ E =>
     have Y:j<ss.length:=by have:=m.out;omega
     have ay:(j:Int)<(ss.length:Int):=by omega
     obtain⟨b2,a9,rfl,a2,s0,s1⟩:=(al.out.below (C.out.but.low Q.out K)).at_ j Y;have N:Hid (ss.foldl qhw l=(ss.drop (j+1)).foldl qhw (qhw d ss[j])):=by
      have h:=aa.out;rw[List.drop_eq_getElem_cons Y] at h;exact h
     have O:=qaa (aj.out j Y);generalize ss[j]=sg at *;have u:Hid (qqj W f d (wr.alloc (.cells #[.int .i64 sg.1,.string ⟨sg.2.toArray⟩] 169))):=C.out.next bwA
     obtain⟨o,key⟩:=sg;have J:Hid ((wr.alloc (.cells #[.int .i64 o,.string ⟨key.toArray⟩] 169)).heap[wr.heap.size]? = some (.cells #[.int .i64 o,.string ⟨key.toArray⟩] 169)):=qac _ _;have ah:=qaa C.out.names.im.lt;clear C;go_wp2;generalize wr.alloc (.cells #[.int .i64 o,.string ⟨key.toArray⟩] 169)=V1 at *;generalize wr.heap.size=M at *;refine rgn (S:=fun Z=>Z.cell? ⟨A,2,none⟩=some (.map (some f))/\Z.heap[M]? = some (.cells #[.int .i64 o,.string ⟨key.toArray⟩] 169)/\ImK Z f d) (⟨u.out.but.cellA T U c2,J.out,u.out.names⟩) (by kernel_rfl) ?_;intro c;by_cases ae:o=3
     ·subst ae;by_cases G:key∈d
      ·obtain⟨x,hx⟩:∃x,x=2+d.idxOf key:=⟨_,rfl⟩
       have R:Hid ((fnL d (.string key)).getD 0=x):=by show _=_;rw[qes G,hx];rfl
       have a7:((x:Int)==0)=false:=by simp;omega
       have B:Hid (qhw d (3,key)=d):=if_neg (fun h=>h.2 G);clear hx;refine tkH 0 23 (.pointer (some ⟨M,0,none⟩)) rfl (by kernel_rfl) (fun _ _ _ h=>h) (fun Z a=>by kernel_rfl) c ?_;refine tkH 1 24 (.int .i64 3) rfl (by kernel_rfl) (fun _ _ _ h=>h) (fun Z a => ?y1) c ?_
       case y1=>(have q:=qab a.2.1 0;go_simp)
       refine tkH 2 25 (.bool true) rfl (by kernel_rfl) (fun _ _ _ h=>h) (fun Z a=>by kernel_rfl) c ?_;refine tkH 3 26 (.bool true) rfl (by kernel_rfl) (fun _ _ _ h=>h) (fun Z a=>by kernel_rfl) c ?_;refine tkH 4 27 (.pointer (some ⟨A,0,none⟩)) rfl (by kernel_rfl) (fun _ _ _ h=>h) (fun Z a=>by kernel_rfl) c ?_;refine tkH 5 28 (.pointer (some ⟨A,0,none⟩)) rfl (by kernel_rfl) (fun _ _ _ h=>h) (fun Z a=>by kernel_rfl) c ?_;refine tkH 6 29 (.pointer (some ⟨A,2,none⟩)) rfl (by kernel_rfl) (fun _ _ _ h=>h) (fun Z a=>by kernel_rfl) c ?_;refine tkH 7 30 (.map (some f)) rfl (by kernel_rfl) (fun _ _ _ h=>h) (fun Z a => ?y7) c ?_
       case y7=>(have q:=a.1;go_simp)
       refine tkH 8 31 (.pointer (some ⟨M,1,none⟩)) rfl (by kernel_rfl) (fun _ _ _ h=>h) (fun Z a=>by kernel_rfl) c ?_;refine tkH 9 32 (.string ⟨key.toArray⟩) rfl (by kernel_rfl) (fun _ _ _ h=>h) (fun Z a => ?y9) c ?_
       case y9=>(have q:=qab a.2.1 1;go_simp)
       refine tkH 10 33 (.int .i64 x) rfl (by kernel_rfl) (fun _ _ _ h=>h) (fun Z a => ?y10) c ?_
       case y10=>(have V:=qf8 a.2.2.im stK underlying124 (ql8 key O.out);rw[R.out] at V;go_simp)
       refine tkH 11 34 (.bool false) rfl (by kernel_rfl) (fun _ _ _ h=>h) (fun Z a => ?y11) c ?_
       case y11=>(go_simp)
       refine tkH 12 35 (.bool false) rfl (by kernel_rfl) (fun _ _ _ h=>h) (fun Z a=>by kernel_rfl) c ?_;refine wpAnyH_done (by kernel_rfl) ?_ _;go_simp;have n:=qaa (u.out.next (Below.refl _ _).drew);go_wp2;go_roundg E
       case measure=>omega
       case rel=>exact⟨j+1,d,by go_num,by show _=_;have:=m.out;omega,n,by have h:=N.out;rw[B.out] at h;exact h,by show _<=_;have:=t.out;omega⟩
      have R:Hid ((fnL d (.string key)).getD 0=0):=by show _=_;rw[qdP G];rfl
      have B:Hid (qhw d (3,key)=d++[key]):=if_pos ⟨rfl,G⟩;refine tkH 0 23 (.pointer (some ⟨M,0,none⟩)) rfl (by kernel_rfl) (fun _ _ _ h=>h) (fun Z a=>by kernel_rfl) c ?_;refine tkH 1 24 (.int .i64 3) rfl (by kernel_rfl) (fun _ _ _ h=>h) (fun Z a => ?y1) c ?_
      case y1=>(have q:=qab a.2.1 0;go_simp)
      refine tkH 2 25 (.bool true) rfl (by kernel_rfl) (fun _ _ _ h=>h) (fun Z a=>by kernel_rfl) c ?_;refine tkH 3 26 (.bool true) rfl (by kernel_rfl) (fun _ _ _ h=>h) (fun Z a=>by kernel_rfl) c ?_;refine tkH 4 27 (.pointer (some ⟨A,0,none⟩)) rfl (by kernel_rfl) (fun _ _ _ h=>h) (fun Z a=>by kernel_rfl) c ?_;refine tkH 5 28 (.pointer (some ⟨A,0,none⟩)) rfl (by kernel_rfl) (fun _ _ _ h=>h) (fun Z a=>by kernel_rfl) c ?_;refine tkH 6 29 (.pointer (some ⟨A,2,none⟩)) rfl (by kernel_rfl) (fun _ _ _ h=>h) (fun Z a=>by kernel_rfl) c ?_;refine tkH 7 30 (.map (some f)) rfl (by kernel_rfl) (fun _ _ _ h=>h) (fun Z a => ?y7) c ?_
      case y7=>(have q:=a.1;go_simp)
      refine tkH 8 31 (.pointer (some ⟨M,1,none⟩)) rfl (by kernel_rfl) (fun _ _ _ h=>h) (fun Z a=>by kernel_rfl) c ?_;refine tkH 9 32 (.string ⟨key.toArray⟩) rfl (by kernel_rfl) (fun _ _ _ h=>h) (fun Z a => ?y9) c ?_
      case y9=>(have q:=qab a.2.1 1;go_simp)
      refine tkH 10 33 (.int .i64 0) rfl (by kernel_rfl) (fun _ _ _ h=>h) (fun Z a => ?y10) c ?_
      case y10=>(have V:=qf8 a.2.2.im stK underlying124 (ql8 key O.out);rw[R.out] at V;go_simp)
      refine tkH 11 34 (.bool true) rfl (by kernel_rfl) (fun _ _ _ h=>h) (fun Z a=>by kernel_rfl) c ?_;refine tkH 12 35 (.bool true) rfl (by kernel_rfl) (fun _ _ _ h=>h) (fun Z a=>by kernel_rfl) c ?_;refine wpAnyH_done (by kernel_rfl) ?_ _;go_simp;have n:=qaa (u.out.next (Below.refl _ _).drew);have H:Hid ((World.drew V1).heap[M]? = some (.cells #[.int .i64 3,.string ⟨key.toArray⟩] 169)):=J.out;clear c u J;generalize World.drew V1=V2 at *;have d2:=n.out.but.cellA T U c2;have a5:=n.out.names.len underlying124;have af:d.length<=8*16:=by have:=P.out;have:=t.out;have:=y.out;have:=m.out;omega
      obtain⟨v,b⟩:∃v,v=2+d.length:=⟨_,rfl⟩
      have an:Hid (wrap64 (2+(d.length:Int))=(v:Int)):=by show _=_;rw[b];exact wr2 _ af
      have am:=qaa b;clear b af;go_wp2;rw[an.out];have ab:=qaa (n.out.next (Below.refl _ _).drew);obtain⟨w7,ag,ad,s⟩:=qpO ab.out.names underlying124 (by have:=P.out;have:=t.out;have:=y.out;have:=m.out;omega) O.out G;rw[<-am.out] at ag;have ac:Hid (qqj W f (d++[key]) w7):=⟨ab.out.but.trans ⟨s.os,s.tape,s.output,s.size,fun i hi az=>s.block i hi (by simpa using az)⟩,ad⟩
      have r:(fun Z:World=>Z.cell? ⟨A,2,none⟩=some (.map (some f))/\Z.heap[M]? = some (.cells #[.int .i64 3,.string ⟨key.toArray⟩] 169)) {V2 with drawn:=V2.drawn+1}:=⟨d2,H.out⟩
      have ar:(fun Z:World=>Z.cell? ⟨A,2,none⟩=some (.map (some f))/\Z.heap[M]? = some (.cells #[.int .i64 3,.string ⟨key.toArray⟩] 169)) w7:=⟨ac.out.but.cellA T U c2,(s.block M (ltA H.out) (by have:=ah.out;simp;omega)).trans H.out⟩
      clear ad s n H;refine wp_region_held (S:=fun Z=>Z.cell? ⟨A,2,none⟩=some (.map (some f))/\Z.heap[M]? = some (.cells #[.int .i64 3,.string ⟨key.toArray⟩] 169)) (by kernel_rfl) ?_;refine tkH 0 42 (.pointer (some ⟨A,0,none⟩)) rfl (by kernel_rfl) (fun _ _ _ h=>h) (fun Z a=>by kernel_rfl) r ?_;refine tkH 1 43 (.pointer (some ⟨A,0,none⟩)) rfl (by kernel_rfl) (fun _ _ _ h=>h) (fun Z a=>by kernel_rfl) r ?_;refine tkH 2 44 (.pointer (some ⟨A,2,none⟩)) rfl (by kernel_rfl) (fun _ _ _ h=>h) (fun Z a=>by kernel_rfl) r ?_;refine tkH 3 45 (.map (some f)) rfl (by kernel_rfl) (fun _ _ _ h=>h) (fun Z a => ?y3) r ?_
      case y3=>(have q:=a.1;go_simp)
      refine tkH 4 46 (.pointer (some ⟨M,1,none⟩)) rfl (by kernel_rfl) (fun _ _ _ h=>h) (fun Z a=>by kernel_rfl) r ?_;refine tkH 5 47 (.string ⟨key.toArray⟩) rfl (by kernel_rfl) (fun _ _ _ h=>h) (fun Z a => ?y5) r ?_
      case y5=>(have q:=qab a.2 1;go_simp)
      refine tkH 6 48 (.int .i64 v) rfl (by kernel_rfl) (fun _ _ _ h=>h) (fun Z a=>by kernel_rfl) r ?_;refine rdS 7 rfl (by kernel_rfl) (fun a1 hK => ?_);go_simp;refine hK.out _ _ ar (fun _ => ?_);clear hK;refine wpAnyH_done (by kernel_rfl) ?_ _;go_simp;clear ag;go_wp2;go_roundg E
      case measure=>omega
      case rel=>exact⟨j+1,d++[key],by go_num,by show _=_;have:=m.out;omega,ac,by have h:=N.out;rw[B.out] at h;exact h,by show _<=_;have:=t.out;simp;omega⟩
     have a3:((o:Int)==3)=false:=by simp;omega
     have B:Hid (qhw d (o,key)=d):=if_neg (fun h=>ae h.1);refine tkH 0 23 (.pointer (some ⟨M,0,none⟩)) rfl (by kernel_rfl) (fun _ _ _ h=>h) (fun Z a=>by kernel_rfl) c ?_;refine tkH 1 24 (.int .i64 o) rfl (by kernel_rfl) (fun _ _ _ h=>h) (fun Z a => ?y1) c ?_
     case y1=>(have q:=qab a.2.1 0;go_simp)
     refine tkH 2 25 (.bool false) rfl (by kernel_rfl) (fun _ _ _ h=>h) (fun Z a => ?y2) c ?_
     case y2=>(go_simp)
     refine tkH 3 26 (.bool false) rfl (by kernel_rfl) (fun _ _ _ h=>h) (fun Z a=>by kernel_rfl) c ?_;refine tkU 4 27 rfl (by kernel_rfl) (fun _ _ _ h=>h) c ?_;refine tkU 5 28 rfl (by kernel_rfl) (fun _ _ _ h=>h) c ?_;refine tkU 6 29 rfl (by kernel_rfl) (fun _ _ _ h=>h) c ?_;refine tkU 7 30 rfl (by kernel_rfl) (fun _ _ _ h=>h) c ?_;refine tkU 8 31 rfl (by kernel_rfl) (fun _ _ _ h=>h) c ?_;refine tkU 9 32 rfl (by kernel_rfl) (fun _ _ _ h=>h) c ?_;refine tkU 10 33 rfl (by kernel_rfl) (fun _ _ _ h=>h) c ?_;refine tkU 11 34 rfl (by kernel_rfl) (fun _ _ _ h=>h) c ?_;refine tkH 12 35 (.bool false) rfl (by kernel_rfl) (fun _ _ _ h=>h) (fun Z a=>by kernel_rfl) c ?_;refine wpAnyH_done (by kernel_rfl) ?_ _;go_simp;have n:=qaa (u.out.next (Below.refl _ _).drew);go_wp2;go_roundg E
     case measure=>omega
     case rel=>exact⟨j+1,d,by go_num,by show _=_;have:=m.out;omega,n,by have h:=N.out;rw[B.out] at h;exact h,by show _<=_;have:=t.out;omega⟩

def tkX (ks:List (List UInt8))(s:Nat×List UInt8)(x:Nat):Bool:=if s.1=0 then true else if s.1=1 then false else if s.1=2 then x==1 else x==(fnL ks (.string s.2)).getD 0
def gB (rs:List (List (Nat×List UInt8)×Int×Int))(r p:Nat)(f:Nat×List UInt8->Bool):Bool:=match rs[r]? with
 |some R=>(match R.1[p]? with|some s=>f s|none=>false)
 |none=>false
theorem qwa (a:rs[r]? = some R)(b:R.1[p]? = some s)(f:Nat×List UInt8->Bool):gB rs r p f=f s:=by
 unfold gB;rw[a];show(match R.1[p]? with|some s=>f s|none=>false)=f s;rw[b]
theorem qpD (a:rs[r]? = some R)(b:R.1.length<=p)(f:Nat×List UInt8->Bool):gB rs r p f=false:=by
 unfold gB;rw[a];show(match R.1[p]? with|some s=>f s|none=>false)=false;rw[List.getElem?_eq_none b]
theorem qsy (a:rs.length<=r)(p:Nat)(f:Nat×List UInt8->Bool):gB rs r p f=false:=by
 unfold gB;rw[List.getElem?_eq_none a]
structure LyM (rs:List (List (Nat×List UInt8)×Int×Int))(ks:List (List UInt8))(i j:Nat)(st:Nat->Nat)(tk:Nat->Nat->Nat):Prop where
 s:∀r p,(st r).testBit p=(decide (r<i\/(r=i/\p<j))&&gB rs r p (fun s=>s.1==1))
 t:∀x r p,(tk x r).testBit p=(decide (r<i\/(r=i/\p<j))&&gB rs r p (fun s=>tkX ks s x))
theorem qos (rs:List (List (Nat×List UInt8)×Int×Int))(ks:List (List UInt8)):LyM rs ks 0 0 (fun _=>0) (fun _ _=>0) :=
 ⟨fun r p=>by simp,fun x r p=>by simp⟩
def stU (st:Nat->Nat)(i j:Nat)(b:Bool):Nat->Nat:=fun r=>if r=i/\b=true then st r ||| 2^j else st r
theorem qvF (x j p:Nat):(x ||| 2^j).testBit p=(x.testBit p||decide (p=j)):=by
 rw[Nat.testBit_or,Nat.testBit_two_pow];congr 1;exact decide_eq_decide.2 ⟨fun h=>h.symm,fun h=>h.symm⟩
theorem qo5 {f:Nat×List UInt8->Bool}(c:rs[i]? = some R)(g:R.1[j]? = some s)(h:∀r p,(st r).testBit p=(decide (r<i\/(r=i/\p<j))&&gB rs r p f))(r p:Nat):(stU st i j (f s) r).testBit p=(decide (r<i\/(r=i/\p<j+1))&&gB rs r p f):=by
 unfold stU;by_cases b:r=i
 ·subst b
  cases d:f s with
  |true =>
   rw[if_pos ⟨rfl,rfl⟩,qvF,h];by_cases a:p=j
   ·subst a;rw[qwa c g,d];simp
   have e:decide (r<r\/r=r/\p<j)=decide (r<r\/r=r/\p<j+1):=decide_eq_decide.2 (by omega);rw[e,decide_eq_false a,Bool.or_false]
  |false =>
   rw[if_neg (by simp),h];by_cases a:p=j
   ·subst a;rw[qwa c g,d];simp
   have e:decide (r<r\/r=r/\p<j)=decide (r<r\/r=r/\p<j+1):=decide_eq_decide.2 (by omega);rw[e]
 rw[if_neg (fun k=>b k.1),h];have e:(r<i\/r=i/\p<j)=(r<i\/r=i/\p<j+1):=by simp[b]
 simp only[e]
theorem LyM.place (h:LyM rs ks i j st tk)(a:rs[i]? = some R)(b:R.1[j]? = some s):LyM rs ks i (j+1) (stU st i j (s.1==1)) (fun x=>stU (tk x) i j (tkX ks s x)) :=
 ⟨fun r p=>qo5 (f:=fun s=>s.1==1) a b h.s r p,fun x r p=>qo5 (f:=fun s=>tkX ks s x) a b (h.t x) r p⟩
theorem LyM.rule (h:LyM rs ks i j st tk)(b:rs[i]? = some R)(d:R.1.length<=j):LyM rs ks (i+1) 0 st tk:=by
 have key:∀(f:Nat×List UInt8->Bool) (r p:Nat),(decide (r<i\/(r=i/\p<j))&&gB rs r p f)=(decide (r<i+1\/(r=i+1/\p<0))&&gB rs r p f):=by
  intro f r p;by_cases a:r=i
  ·subst a;by_cases c:p<j
   ·simp[c]
   rw[qpD b (by omega)];simp
  have e:(r<i\/r=i/\p<j)=(r<i+1\/r=i+1/\p<0):=by simp[a];omega
  simp only[e]
 exact⟨fun r p=>(h.s r p).trans (key _ r p),fun x r p=>(h.t x r p).trans (key _ r p)⟩
structure LyD (rs:List (List (Nat×List UInt8)×Int×Int))(ks:List (List UInt8))(st:Nat->Nat)(tk:Nat->Nat->Nat):Prop where
 s:∀r p,(st r).testBit p=gB rs r p (fun s=>s.1==1)
 t:∀x r p,(tk x r).testBit p=gB rs r p (fun s=>tkX ks s x)
theorem LyM.done (h:LyM rs ks i 0 st tk)(hi:rs.length<=i):LyD rs ks st tk:=by
 have key:∀(f:Nat×List UInt8->Bool) (r p:Nat),(decide (r<i\/(r=i/\p<0))&&gB rs r p f)=gB rs r p f:=by
  intro f r p;by_cases a:r<i
  ·simp[a]
  rw[qsy (by omega)];simp
 exact⟨fun r p=>(h.s r p).trans (key _ r p),fun x r p=>(h.t x r p).trans (key _ r p)⟩
theorem qrl {x:Nat}(h:∀p,8<=p->x.testBit p=false):x<256:=Nat.lt_pow_two_of_testBit (n:=8) x (fun p a=>h p a)
theorem qlO (b:∀i (h:i<rs.length),rs[i].1.length<=8)(r p:Nat)(c:8<=p)(f:Nat×List UInt8->Bool):gB rs r p f=false:=by
 by_cases a:r<rs.length
 ·exact qpD (List.getElem?_eq_getElem a) (Nat.le_trans (b r a) c) f
 exact qsy (by omega) p f
theorem LyM.lt (h:LyM rs ks i j st tk)(b:∀i (h:i<rs.length),rs[i].1.length<=8):(∀r,st r<256)/\∀x r,tk x r<256 :=
 ⟨fun r=>qrl fun p a=>by rw[h.s,qlO b r p a];simp,fun x r=>qrl fun p a=>by rw[h.t,qlO b r p a];simp⟩

def qhM (q:Aut)(st:Nat->Nat)(tv sv:Value):Array Value:=#[.slice q.ra q.rs.length q.rc,.int .i64 q.dflt,.map (some q.lm)]++plA st++#[tv,sv,.map (some q.nb),.map (some q.mb)]
theorem qqO (q:Aut)(a:Value):qvY q a=qhM q q.st (.slice (some ⟨q.tb,0,none⟩) q.L q.tc) a:=by kernel_rfl
theorem qo9 (q:Aut)(st:Nat->Nat)(c a b:Value):(qhM q st c a).setIfInBounds 19 b=qhM q st b a:=by kernel_rfl
theorem qoq (q:Aut)(st:Nat->Nat)(b a:Value)(r v:Nat)(c:r<16):(qhM q st b a).setIfInBounds (3+r) (.int .u16 v)=qhM q (fun i=>if i=r then v else st i) b a:=by
 have h:=congrArg Array.toList (qik st r v);rw[Array.toList_setIfInBounds] at h;apply Array.ext';unfold qhM;rw[Array.toList_setIfInBounds];simp only[Array.toList_append];rw[List.set_append_left _ _ (by have:=qbR st;simp;omega),List.set_append_right _ _ (by simp),<-h];have e:3+r-[Value.slice q.ra q.rs.length q.rc,Value.int IntKind.i64 q.dflt,Value.map (some q.lm)].length=r:=by simp
 rw[e]
theorem qtu (q:Aut)(st:Nat->Nat)(c b:Value)(r:Nat)(a:r<16):(qhM q st c b)[3+r]? = some (.int .u16 (st r)):=by
 have d:=qbR st;unfold qhM;rw[Array.getElem?_append_left (by simp;omega),Array.getElem?_append_right (by simp)];have e:3+r-#[Value.slice q.ra q.rs.length q.rc,Value.int IntKind.i64 q.dflt,Value.map (some q.lm)].size=r:=by simp
 rw[e];exact qcR st r a
structure TkC (cur:Array Value)(L:Nat)(tk:Nat->Nat->Nat):Prop where
 size:cur.size=L*16
 at_:∀x r,x<L->r<16->cur[x*16+r]? = some (.int .u16 (tk x r))
theorem TkC.set {cur:Array Value}(h:TkC cur L tk)(x r v:Nat)(d:x<L)(c:r<16):TkC (cur.setIfInBounds (x*16+r) (.int .u16 v)) L (fun y i=>if y=x/\i=r then v else tk y i):=by
 refine⟨by rw[Array.size_setIfInBounds,h.size],fun y i b a => ?_⟩;rw[Array.getElem?_setIfInBounds];by_cases e:y=x/\i=r
 ·rw[if_pos (by rw[e.1,e.2]),if_pos (by rw[h.size];omega),if_pos e]
 rw[if_neg (by omega),if_neg e];exact h.at_ y i b a
structure qci (W:World)(A tb L:Nat)(q:Aut)(sv:Value)(st:Nat->Nat)(tk:Nat->Nat->Nat)(V:World):Prop where
 row:V.heap[A]? = some (.cells (qhM q st (.slice (some ⟨tb,0,none⟩) L L) sv) 133)
 tks:∃cur,V.heap[tb]? = some (.cells cur 129)/\TkC cur L tk
 os:V.os=W.os
 tape:V.tape=W.tape
 output:V.output=W.output
 size:W.heap.size<=V.heap.size
 block:∀k,k<W.heap.size->k≠A->V.heap[k]? = W.heap[k]?
theorem qci.next (h:qci W A tb L q sv st tk V)(a:Below V.heap.size V V'):qci W A tb L q sv st tk V':=by
 obtain⟨d,c,f⟩:=h.tks;exact⟨(a.block _ (ltA h.row)).trans h.row,⟨d,(a.block _ (ltA c)).trans c,f⟩,a.os.trans h.os,a.tape.trans h.tape,a.output.trans h.output,Nat.le_trans h.size a.size,fun k b e=>(a.block k (Nat.lt_of_lt_of_le b h.size)).trans (h.block k b e)⟩
theorem qlA (V:World)(p:Addr)(v:Value):(V.drew.setCell p v).heap.size=V.heap.size:=by
 have e:(V.drew.setCell p v).heap.size=V.drew.heap.size:=by simp[World.setCell]
 exact e
theorem qci.stays (h:qci W A tb L q sv st tk V)(e:A≠tb)(r v:Nat)(f:r<16):qci W A tb L q sv (fun i=>if i=r then v else st i) tk (V.drew.setCell ⟨A,3+r,none⟩ (.int .u16 v)):=by
 obtain⟨c,g,j⟩:=h.tks;have a:=heap_setCell_same V.drew A (3+r) _ _ (.int .u16 v) h.row;rw[qoq q st _ sv r v f] at a;refine⟨a,⟨c,(Below.heap_setCell V.drew _ _ _ (by simpa using e.symm)).trans g,j⟩,h.os,h.tape,h.output,by rw[qlA];exact h.size,fun k d b=>(Below.heap_setCell V.drew _ _ _ (by simpa using b)).trans (h.block k d b)⟩
theorem qci.took (h:qci W A tb L q sv st tk V)(c:A≠tb)(l:W.heap.size<=tb)(x r v:Nat)(e:x<L)(d:r<16):qci W A tb L q sv st (fun y i=>if y=x/\i=r then v else tk y i) (V.drew.setCell ⟨tb,x*16+r,none⟩ (.int .u16 v)):=by
 obtain⟨j,f,g⟩:=h.tks;exact⟨(Below.heap_setCell V.drew _ _ _ (by simpa using c)).trans h.row,⟨_,heap_setCell_same V.drew tb (x*16+r) _ _ (.int .u16 v) f,g.set x r v e d⟩,h.os,h.tape,h.output,by rw[qlA];exact h.size,fun k a b=>(Below.heap_setCell V.drew _ _ _ (by simp;omega)).trans (h.block k a b)⟩

end
end Go.Proofs.YtcokgepdckkjdaaGreatDoor
