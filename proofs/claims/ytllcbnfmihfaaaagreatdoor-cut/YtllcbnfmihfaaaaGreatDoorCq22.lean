import Derived.Test.YtllcbnfmihfaaaaGreatDoorCq20
import Derived.Test.YtllcbnfmihfaaaaGreatDoorCq21
set_option maxRecDepth 100000
set_option maxHeartbeats 8000000
namespace Go.Proofs.YtllcbnfmihfaaaaGreatDoor
open Go.Proofs.Tryz
variable {base e:Nat}{W W':World}{bs:List UInt8}{b:UInt8}{v':Value}
section
open Go.RowKit Go.Lib
def qg2 (W:World)(base e:Nat)(v:Value)(bs:List UInt8):Prop:=Own W base v bs∧v.ownBlock≠some e∧e<W.heap.size
def qg5 (base e:Nat)(W W':World):Prop:=Below base W W'∧W'.heap[e]? = W.heap[e]?
theorem qg5.trans {A B C:World}(h:qg5 base e A B)(k:qg5 base e B C):qg5 base e A C:=⟨h.1.trans k.1,k.2.trans h.2⟩
theorem qb0 {a:Option Addr}{n c:Nat}{u:Value}(h:qg2 W base e (.slice a n c) bs)(hu:qav b=u)(hown:W'.ownsRow base 5 1 v' (bs.length+1) (bs.map qav++[u]))(hgrow:(W.alloc (Obj.cells #[u] 5)).grownBy W' (Value.slice a n c).ownBlock)(hat:v'.ownBlock=(Value.slice a n c).ownBlock∨v'.ownBlock=some (W.alloc (Obj.cells #[u] 5)).heap.size):qg2 W' base e v' (bs++[b])∧qg5 base e W W':=by
 obtain⟨⟨ho,hb,_⟩,hne,hlt⟩:=h;have h1:=qax hb ho hu hown hgrow;have hs:=hgrow.size;simp at hs;refine⟨⟨h1.1,?_,by omega⟩,h1.2,?_⟩
 ·rcases hat with hat|hat
  ·rw[hat];exact hne
  rw[hat];simp;omega
 rw[hgrow.block e (by simp;omega) (fun x=>hne x.symm)];exact((Below.refl W.heap.size W).alloc (Nat.le_refl _) _).block e hlt
theorem qdv {W2:World}{ys zs:List UInt8}{v2:Value}(h:qg2 W' base e v' (bs++[b])∧qg5 base e W W')(h2:qg2 W2 base e v2 ((bs++[b])++ys))(hB:qg5 base e W' W2)(k:b::ys=zs):qg2 W2 base e v2 (bs++zs)∧qg5 base e W W2:=by
 subst k;refine⟨?_,h.2.trans hB⟩;rw[List.append_assoc] at h2;exact h2
theorem qbT (W:World)(base e:Nat)(v:Value)(bs:List UInt8)(x w:Nat)(_hx:x<18446744073709551616)(hw:w≤8)(hl:bs.length≤1000000000)(h:qg2 W base e v bs):Calls prog 202 #[v,.int .u64 x,.int .i64 w] W fun r W'=>∃v',r=.returned v'∧qg2 W' base e v' (bs++beF x w)∧qg5 base e W W':=by
 obtain⟨i0,hi,hz0,hz1,hz2⟩:=info_parts Tryz.infoU8;obtain⟨a,n,c,rfl⟩:=h.1.2.2;have HO:=qaa h;go_enter func202,ntmps202;go_wp2
 go_loopg [0,7] w (fun g y z wr=>∃(ys:List UInt8) (a n c:_),y=.slice a n c∧z=.int .i64 ((g:Int)-1)∧g≤w∧ys.length≤1000000000+(w-g)∧Hid (qg2 wr base e (.slice a n c) ys)∧Hid (qg5 base e W wr)∧Hid (ys++beF x g=bs++beF x w))
 case atStart=>exact⟨bs,a,n,c,rfl,by go_num,Nat.le_refl _,by omega,HO,⟨Below.refl _ _,rfl⟩,rfl⟩
 case round =>
  obtain⟨ys,a,n,c,rfl,rfl,hg,hyl,HO,HB,HE⟩:=hrel;have hb:=HO.out.1.2.1
  cases gk with
  |zero =>
   go_wp2;go_ret;have k:ys=bs++beF x w:=by have:=HE.out;simpa [beF] using this
   subst k;exact⟨_,rfl,HO.out,HB.out⟩
  |succ k =>
   go_wp2_with (first
    |(at_builtin;refine wpList_append_own_at _ rfl _ _ 28 rfl base 5 i0 (.int .u8 0) 1 1 underlying28 hi hz0 hz1 hz2 rfl (by decide) _ _ _ rfl (HO.out.1.1.alloc _) ⟨wr.heap.size,0,none⟩ 1 1 [.int .u8 ((x:Int) / 2^(8*k)%256)] rfl rfl (qag _ _ _) (fun u hu=>by simp at hu;subst hu;rfl) (by unfold maxLen;omega) (by omega) (by simp;omega) ?_;intro v' w5 hown' hgrow5 hnil5 hat5;have HN:=qaa (qb0 HO.out (qlF x k) hown' hgrow5 hat5);obtain⟨g5,cap5,rfl⟩:=ownsRow_succ hown'))
   go_roundg k
   case measure=>omega
   case rel =>
    refine⟨ys++[UInt8.ofNat (x / 2^(8*k)%256)],_,_,_,rfl,by go_num,by omega,by rw[List.length_append];simp;omega,HN.out.1,HB.out.trans HN.out.2,?_⟩;show _=_;have:=HE.out;rw[beF] at this;rw[List.append_assoc];exact this
theorem qvv (T:DataW Unit→Bool)(W:World)(u:Value)(F:Nat→Prop)(hF:∀k,F k→k<W.heap.size)(ds:List (Lit×DataW Unit))(xs:List Value)(hu:qb1 W 208 2 F u ds.length xs)(hit:∀(i:Nat) (key:Lit) (d:DataW Unit),ds[i]? = some (key,d)→∃l t y,key=.string l∧xs[2*i]? = some (.string ⟨l.toArray⟩)∧xs[2*i+1]? = some (.iface t y)∧qtb W (.iface t y) (T d)):Calls prog 66 #[.iface 206 u] W fun e W'=>e=.returned (.bool (ds.any fun e=>T e.2))∧Below W.heap.size W W':=by
 obtain⟨q,cap,rfl,hn⟩:∃q cap,u=.slice q ds.length cap∧ds.length≤maxLen:=by
  rcases hu.2 with ⟨e,e2⟩|⟨g,cap,cur,e,_,_,e4,e5,_⟩
  ·exact⟨none,0,by rw[e,e2],by rw[e2];decide⟩
  exact⟨_,_,e,Nat.le_trans e4 e5⟩
 unfold maxLen at hn;have HU:=qaa hu;have HI:=qaa hit;obtain⟨r,HRR⟩:∃r,Hid ((ds.any fun e=>T e.2)=r):=⟨_,show _=_ from rfl⟩
 rw[HRR.out];have ta0:=qmG q ds.length cap;have ta1:=qjk q ds.length cap;have ta2:=qmd q ds.length cap;go_enter func66,ntmps66;go_wp2
 go_loopg [31,9] ds.length (fun g z x wr=>∃(k:Nat),z=.int .i64 k∧Hid (k+g=ds.length)∧Hid ((ds.take k).any (fun e=>T e.2)=false)∧Hid (Below W.heap.size W wr))
 case atStart=>exact⟨0,rfl,by show _=_;omega,by show _=_;simp,Below.refl _ _⟩
 case round =>
  obtain⟨k,rfl,hk,HA,HB3⟩:=hrel
  cases gk with
  |zero =>
   have hlt:¬(k:Int)<ds.length:=by have:=hk.out;omega
   have HT:Hid (r=false):=by
    show _=_;rw[←HRR.out];have h:=HA.out;rwa [List.take_of_length_le (by have:=hk.out;omega)] at h
   go_wp2;go_ret;rw[HT.out];exact⟨rfl,HB3.out⟩
  |succ g =>
   have hkn:k<ds.length:=by have:=hk.out;omega
   have hlt:(k:Int)<ds.length:=by omega
   have HR:=HU.out.same (V':=wr) (G:=F) (fun _ h=>h) (fun j hj=>HB3.out.block j (hF j hj));obtain⟨q0,rfl⟩:∃q0,q=some ⟨q0,0,none⟩:=by
    rcases HR.2 with ⟨_,e⟩|⟨g,cap',cur,e,_⟩
    ·omega
    injection e with e1 e2 e3;exact⟨g,e1⟩
   obtain⟨⟨key,d⟩,hd⟩:∃d,ds[k]? = some d:=⟨ds[k],List.getElem?_eq_getElem hkn⟩
   obtain⟨l,tx,yx,rfl,hx0,hx1,hI⟩:=HI.out k key d hd;have hc0:wr.cell? ⟨q0,k*2,none⟩=some (.string ⟨l.toArray⟩):=by
    have:=HR.cell (2*k) _ hx0;have e:(⟨q0,0,none⟩:Addr).add (2*k)=⟨q0,k*2,none⟩:=by by_cases h:2*k=0<;>simp only[Addr.add,h,Nat.zero_add,Nat.mul_comm k 2,if_true,if_false]
    rwa [e] at this
   have hc1:wr.cell? ⟨q0,k*2+1,none⟩=some (.iface tx yx):=by
    have:=HR.cell (2*k+1) _ hx1;have e:(⟨q0,0,none⟩:Addr).add (2*k+1)=⟨q0,k*2+1,none⟩:=by simp[Addr.add,Nat.mul_comm]
    rwa [e] at this
   have HV:Hid (Below W.heap.size W (wr.alloc (.cells #[.string ⟨l.toArray⟩,.iface tx yx] 208))):=HB3.out.alloc HB3.out.size _;have cI:=hI _ HV.out;have HN:Hid ((ds.take (k+1)).any (fun e=>T e.2)=((ds.take k).any (fun e=>T e.2)||T d)):=qlT (fun e:Lit×DataW Unit=>T e.2) ds k _ hd;have HY:Hid (T d=true→(ds.any fun e=>T e.2)=true):=qnH (fun e:Lit×DataW Unit=>T e.2) ds k _ hd;cases hT:T d
   ·rw[hT] at cI;have HD:=qaa hT
    go_wp2_with (first
     |(go_at_call 66;refine cI.mono ?_;rintro e w4 ⟨rfl,hB4⟩;have HB4:=qaa (qd1 HV.out hB4)))
    go_roundg g
    case measure=>omega
    case rel=>exact⟨k+1,by go_num,by show _=_;have:=hk.out;omega,by show _=_;rw[HN.out,HA.out,HD.out];rfl,HB4⟩
   rw[hT] at cI;have HD:Hid (r=true):=by show _=_;rw[←HRR.out];exact HY.out hT
   go_wp2_with (first
    |(go_at_call 66;refine cI.mono ?_;rintro e w4 ⟨rfl,hB4⟩;have HB4:=qaa (qd1 HV.out hB4)))
   go_ret;rw[HD.out];exact⟨rfl,HB4.out⟩
theorem qai.iface {V:World}{F:Nat→Prop}:∀{k:Nat} {v:Value} {d:DataW Unit},qai k V F v d→∃t y,v=.iface t y
 |0,_,_,h=>h.elim
 |k+1,v,d,h=>by
  unfold qai at h;split at h
  ·exact⟨_,_,h⟩
  ·exact⟨_,_,h⟩
  ·exact⟨_,_,h.1⟩
  ·exact⟨_,_,h⟩
  ·obtain⟨u,e,_⟩:=h;exact⟨_,_,e⟩
  ·obtain⟨u,xs,e,_⟩:=h;exact⟨_,_,e⟩
  ·obtain⟨u,xs,e,_⟩:=h;exact⟨_,_,e⟩
  exact h.elim
theorem qia:∀(k:Nat) (W:World) (F:Nat→Prop) (v:Value) (d:DataW Unit),(∀j,F j→j<W.heap.size)→qai k W F v d →
  Calls prog 66 #[v] W fun e W'=>e=.returned (.bool (qkn k d))∧Below W.heap.size W W'
 |0,_,_,_,_,_,h=>h.elim
 |k+1,W,F,v,d,hF,h=>by
  have inner:∀x d',qai k W F x d'→qtb W x (qkn k d'):=fun x d' hx V hV =>
   qia k V F x d' (fun j hj=>Nat.lt_of_lt_of_le (hF j hj) hV.size) (hx.same (fun _ h=>h) (fun j hj=>hV.block j (hF j hj)))
  unfold qai at h;split at h
  ·subst h;exact qmZ W
  ·subst h;exact qr3 W _
  ·obtain⟨rfl,_⟩:=h;exact qp0 W _
  ·subst h;exact quz W _
  ·obtain⟨u,rfl,hr⟩:=h;rcases hr.2 with ⟨rfl,_⟩|⟨g,cap,cur,rfl,_⟩
   ·exact qlQ W _ _ _
   exact qlQ W _ _ _
  ·obtain⟨u,xs,rfl,hr,ha⟩:=h;refine quS (qkn k) W u F hF _ xs hr (fun i x d h1 h2=>inner x d (ha i x d h1 h2)) (fun i x hx => ?_);have hd':=List.getElem?_eq_getElem (show i<_ from by
    have h1:=ltL hx;have h2:=hr.1;rw[Nat.mul_one] at h2;rwa [h2] at h1)
   exact(ha i x _ hx hd').iface
  ·obtain⟨u,xs,rfl,hr,ha⟩:=h;refine qvv (qkn k) W u F hF _ xs hr (fun i key d h1 => ?_);obtain⟨l,x,e1,e2,e3,e4⟩:=ha i key d h1;obtain⟨t,y,rfl⟩:=e4.iface;exact⟨l,t,y,e1,e2,e3,inner _ d e4⟩
  exact h.elim
end
section
open Go.RowKit
def NuG (W0:World)(A:Nat)(q:Aut)(sts:List ((Nat→Nat)×Int×Int))(sv:Value)(mn:Nat)(mf:Lit→Option Nat)(Y:Nat→Nat)(W:World)(e:Ending)(W':World):Prop :=
 ∃(i:Nat) (sts':List ((Nat→Nat)×Int×Int)) (sa':Option Addr) (sc':Nat) (nf':Lit→Option Nat),e=.returned (.int .i64 i)∧qlG A q sv W W'∧qsH sv (.slice sa' sts'.length sc') W∧qcj W0 A q sts' (.slice sa' sts'.length sc') nf' mn mf W'∧(∀(j:Nat) (x:(Nat→Nat)×Int×Int),sts[j]? = some x→sts'[j]? = some x)∧sts'.length≤sts.length+1∧∃x,sts'[i]? = some x∧∀r,r<16→x.1 r=Y r
theorem qgn (W0:World)(A:Nat)(q:Aut)(sts:List ((Nat→Nat)×Int×Int))(sa:Option Addr)(sc:Nat)(nf:Lit→Option Nat)(mn:Nat)(mf:Lit→Option Nat)(W:World)(h:qcj W0 A q sts (.slice sa sts.length sc) nf mn mf W)(Y:Nat→Nat)(hY:∀r,Y r<512)(hsm:sts.length<100000):Calls prog 86 #[.pointer (some ⟨A,0,none⟩),.agg (plA Y)] W (NuG W0 A q sts (.slice sa sts.length sc) mn mf Y W):=by
 obtain⟨l,hl⟩:=qpJ Y (fun r=>by have:=hY r;omega)
 cases hi:nf l with
 |some i =>
  refine(qjv W0 A q sts _ nf mn mf W h Y l hl i hi).mono ?_;rintro e W' ⟨rfl,hB⟩;obtain⟨x,hx,hk⟩:=h.num' l i hi;exact⟨i,sts,sa,sc,nf,rfl,⟨hB.size,fun j hj _ _ _ _=>hB.block j hj⟩,.inl rfl,h.next hB,fun _ _ hh=>hh,Nat.le_succ _,x,hx,qpQ (Value.agg.inj (qog.inj hk hl))⟩
 |none =>
  refine(qkt W0 A q sts sa sc nf mn mf W h Y hY l hl hi hsm).mono ?_;rintro e W' ⟨rfl,hF,sa',sc',nf',hO,hA⟩;refine⟨sts.length,sts++[(Y,jdg q.dflt q.rs Y 0)],sa',sc',nf',rfl,hF,?_,?_,fun j x hj => ?_,?_,(Y,jdg q.dflt q.rs Y 0),by simp,fun _ _=>rfl⟩
  ·rw[List.length_append];exact hO
  ·rw[List.length_append];exact hA
  ·rw[List.getElem?_append_left (ltL hj)];exact hj
  rw[List.length_append];exact Nat.le_refl _
theorem stK:Maps.Keyed prog 9:=Maps.string_keyed underlying9
theorem qlk (l:List UInt8)(hb:l.length≤maxLen):keyOf prog 9 (.string ⟨l.toArray⟩)=some (.string l):=by
 have hs:(⟨l.toArray⟩:ByteArray).size≤maxLen:=by
  show l.toArray.size≤maxLen;rw[List.size_toArray];exact hb
 simp[keyOf,mapKey,underlying9,hs]
theorem ql8 (l:List UInt8)(hb:l.length≤1000000000):keyOf prog 9 (.string ⟨l.toArray⟩)=some (.string l):=qlk l (by unfold maxLen;omega)
def qlM (lf:Lit→Option Nat)(key:List UInt8)(ix:Bool):Nat:=if ix=true then 1 else (lf (.string key)).getD 0
theorem qfa (W0:World)(A:Nat)(q:Aut)(sts:List ((Nat→Nat)×Int×Int))(sv:Value)(nf:Lit→Option Nat)(mn:Nat)(mf:Lit→Option Nat)(W:World)(h:qcj W0 A q sts sv nf mn mf W)(key:List UInt8)(ix:Bool)(hb:key.length≤maxLen):Calls prog 194 #[.pointer (some ⟨A,0,none⟩),.agg #[.string ⟨key.toArray⟩,.bool ix]] W fun e W'=>e=.returned (.int .i64 (qlM q.lf key ix))∧Below W.heap.size W W':=by
 have hA:=ltA h.row;have c2:W.cell? ⟨A,2,none⟩=some (.map (some q.lm)):=qab h.row 2;have HL:Hid (qcW (W.alloc (.cells #[.string ⟨key.toArray⟩,.bool ix] 259)) 9 q.lm q.ln q.lf):=h.letters.kept (World.grownBy_alloc W _ none) (by simp);have hlk:=qf8 HL.out stK underlying159 (qlk key hb)
 cases ix with
 |true =>
  go_enter func194,ntmps194;go_wp2;go_ret;exact⟨rfl,bwA⟩
 |false =>
  obtain⟨x,hx⟩:∃x,x=(q.lf (.string key)).getD 0:=⟨_,rfl⟩
  have HX0:Hid (qlM q.lf key false=x):=by rw[hx];rfl
  have HX:=qaa hx.symm;rw[HX0.out];go_enter func194,ntmps194;go_wp2;have hS:(fun Z:World=>Z.cell? ⟨A,2,none⟩=some (.map (some q.lm))∧Z.cell? ⟨W.heap.size,0,none⟩=some (.string ⟨key.toArray⟩)∧qcW Z 9 q.lm q.ln q.lf) { (W.alloc (.cells #[.string ⟨key.toArray⟩,.bool false] 259)) with drawn:=(W.alloc (.cells #[.string ⟨key.toArray⟩,.bool false] 259)).drawn+1}:=⟨((((Below.refl W.heap.size W).alloc (Nat.le_refl _) (.cells #[.string ⟨key.toArray⟩,.bool false] 259)).cell (p:=⟨A,2,none⟩) hA).trans c2 :),qab (qac W _) 0,HL.out⟩
  refine wp_region_held (S:=fun Z=>Z.cell? ⟨A,2,none⟩=some (.map (some q.lm))∧Z.cell? ⟨W.heap.size,0,none⟩=some (.string ⟨key.toArray⟩)∧qcW Z 9 q.lm q.ln q.lf) (by kernel_rfl) ?_;refine tkH 0 7 (.pointer (some ⟨A,0,none⟩)) rfl (by kernel_rfl) (fun _ _ _ h=>h) (fun Z hZ=>by kernel_rfl) hS ?_;refine tkH 1 8 (.pointer (some ⟨A,0,none⟩)) rfl (by kernel_rfl) (fun _ _ _ h=>h) (fun Z hZ=>by kernel_rfl) hS ?_;refine tkH 2 9 (.pointer (some ⟨A,2,none⟩)) rfl (by kernel_rfl) (fun _ _ _ h=>h) (fun Z hZ=>by kernel_rfl) hS ?_;refine tkH 3 10 (.map (some q.lm)) rfl (by kernel_rfl) (fun _ _ _ h=>h) (fun Z hZ => ?y3) hS ?_
  case y3=>(have z1:=hZ.1;go_simp)
  refine tkH 4 11 (.pointer (some ⟨W.heap.size,0,none⟩)) rfl (by kernel_rfl) (fun _ _ _ h=>h) (fun Z hZ=>by kernel_rfl) hS ?_;refine tkH 5 12 (.string ⟨key.toArray⟩) rfl (by kernel_rfl) (fun _ _ _ h=>h) (fun Z hZ => ?y5) hS ?_
  case y5=>(have z2:=hZ.2.1;go_simp)
  refine tkH 6 13 (.int .i64 x) rfl (by kernel_rfl) (fun _ _ _ h=>h) (fun Z hZ => ?y6) hS ?_
  case y6=>(have z3:=qf8 hZ.2.2 stK underlying159 (qlk key hb);rw[HX.out] at z3;go_simp)
  refine tkH 7 4 (.int .i64 x) rfl (by kernel_rfl) (fun _ _ _ h=>h) (fun Z hZ=>by kernel_rfl) hS ?_;refine wpAnyH_done (by kernel_rfl) ?_ _;go_simp;go_wp2;go_ret;exact⟨rfl,(bwA).drew⟩
end
end Go.Proofs.YtllcbnfmihfaaaaGreatDoor
