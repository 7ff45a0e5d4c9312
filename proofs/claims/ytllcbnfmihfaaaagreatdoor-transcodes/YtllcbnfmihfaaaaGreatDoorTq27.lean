import Derived.Test.YtllcbnfmihfaaaaGreatDoorTq24
import Derived.Test.YtllcbnfmihfaaaaGreatDoorTq26
set_option maxRecDepth 100000
set_option maxHeartbeats 8000000
namespace Go.Proofs.YtllcbnfmihfaaaaGreatDoor
open Go.Proofs.Tryz
variable {bs:List UInt8}{kd l lim z:Int}{B b g i k last n p q:Nat}{c:UInt8}{xs:List Value}{V V' W:World}{u v:Value}{d:DataW Unit}{A a y:Array Value}{r:Except (Int×Int) (Int×Nat)}{ex:Nat→Prop}{s:ByteArray}{R:Except (Int×Int) (DataW Unit×Nat)}{ds:List (DataW Unit)}
section
open Go.RowKit Go.Lib
theorem q4u {x:UInt8}{xs:List UInt8}(hc:bs[i]? = some c)(hp:¬(i:Int)=lim)(hx:c=x):qaT bs lim (x::xs) i=qaT bs lim xs (i+1):=by
 rw[qaT,hc];simp only[];rw[if_neg hp,if_pos hx]
theorem qzJ:∀(g p:Nat) (acc:List UInt8) (wh:Nat) (x:List UInt8) (q:Nat),InR bs lim p→qfe bs lim g p acc wh=.ok (x,q)→InR bs lim q
 |0,p,acc,wh,x,q,_,h=>by rw[qfe] at h;cases h
 |g+1,p,acc,wh,x,q,hi,h=>by
  rw[qfe] at h
  cases hc:bs[p]? with
  |none=>rw[hc] at h;cases h
  |some c =>
   rw[hc] at h;simp only[] at h;by_cases hp:(p:Int)=lim
   ·rw[if_pos hp] at h;cases h
   rw[if_neg hp] at h;have hn:=qxJ hi hc hp;split at h
   ·injection h with h;injection h with _ h;subst h;exact hn
   split at h
   ·cases he:qnj bs lim (p+1) with
    |error f=>rw[he] at h;cases h
    |ok y =>
     obtain⟨r,q1⟩:=y;rw[he] at h;exact qzJ g q1 _ _ x q (q21 hn he).1 h
   split at h
   ·cases h
   split at h
   ·cases h
   exact qzJ g (p+1) _ _ x q hn h
theorem q5F {w2 w3:World}{N:Nat}{x:Int×Int}(h:qyi k w3 (fun j=>w2.heap.size≤j∧j<w3.heap.size) v d)(hB:B≤w2.heap.size)(hN:N+2<w2.heap.size):qyi k ((w3.setRow (N+1) y).setRow (N+2) (qqp x)) (fun j=>B≤j∧j<((w3.setRow (N+1) y).setRow (N+2) (qqp x)).heap.size) v d:=by
 refine h.same (fun j hj=>⟨by omega,?a⟩) (fun j hj => ?b)
 case a =>
  have:=hj.2;simpa using this
 case b=>rw[setRow_other _ _ _ _ (by omega),setRow_other _ _ _ _ (by omega)]
def q7g (r:Except (Int×Int) (Int×Nat)):Except (Int×Int) (DataW Unit×Nat):=match r with
 |.error e=>.error e
 |.ok (z,q)=>.ok (.lit (.int .i64 z),q)
theorem q5j {f:Int×Int}(h:qy8 bs lim r (.error f)):qy8 bs lim (q7g r) (.error f):=by
 rcases h with h|⟨q,_,_,_,x,h4⟩
 ·rw[h];exact .inl rfl
 cases h4
theorem q6s (h:qy8 bs lim r (.ok (z,q))):qy8 bs lim (q7g r) (.ok (.lit (.int .i64 z),q)):=by
 rcases h with h|⟨q',h1,h2,h3,x,h4⟩
 ·rw[h];exact .inl rfl
 injection h4 with h4;injection h4 with h5 h6;subst h6;rw[h1];exact .inr ⟨q,rfl,h2,h3,_,rfl⟩
theorem qyO {F:Nat→Prop}(h:qyi 1 V F v d):qyi (k+1) V F v d:=h.more (by omega)
theorem qy2 {W':World}{r:Except (Int×Int) (DataW Unit×Nat)}{e:Ending}(h:qxV k bs lim W r e W'):Below W.heap.size W W'∧∃r' kd n s a i j b p m z F,qy8 bs lim r r'∧e=.returned (.tuple #[.agg (thA kd n s (.slice a i j) (.slice b p m)),.int .i64 z,.agg (qqp F)])∧(∀d q,r'=.ok (d,q)→InR bs lim q∧z=(q:Int)∧F=(0,0)∧qyi k W' (fun j=>W.heap.size≤j∧j<W'.heap.size) (.agg (thA kd n s (.slice a i j) (.slice b p m))) d)∧(∀f,r'=.error f→F=f):=by
 obtain⟨h1,r',h2,h3⟩:=h;refine⟨h1,r',?_⟩
 cases r' with
 |error f =>
  obtain⟨kd,n,s,a,i,j,b,p,m,z,he⟩:=h3;exact⟨kd,n,s,a,i,j,b,p,m,z,f,h2,he,(fun d q e=>by cases e),(fun f' e=>by injection e)⟩
 |ok x =>
  obtain⟨d,q⟩:=x;obtain⟨hq,kd,n,s,a,i,j,b,p,m,he,hA⟩:=h3;refine⟨kd,n,s,a,i,j,b,p,m,q,(0,0),h2,he,fun d' q' e => ?_,(fun f' e=>by cases e)⟩;injection e with e;injection e with e1 e2;subst e1;subst e2;exact⟨hq,rfl,rfl,hA⟩
def RdE (k:Nat)(bs:List UInt8)(lim:Int)(W:World)(r:Except (Int×Int) (DataW Unit×Nat))(T:Array Value)(z:Int)(F:Int×Int):Prop :=
 ∀W',Below W.heap.size W W'→qxV k bs lim W r (.returned (.tuple #[.agg T,.int .i64 z,.agg (qqp F)])) W'
theorem q1x {n:Int}(f:Int×Int):RdE k bs lim W (.error f) (thA kd n s qxE qxE) z f :=
 fun _ h=>⟨h,.error f,.inl rfl,_,_,_,_,_,_,_,_,_,_,rfl⟩
theorem q56 {n:Int}{dd:DataW Unit}(hq:InR bs lim q)(h:∀W',qyi 1 W' (fun j=>W.heap.size≤j∧j<W'.heap.size) (.agg (thA kd n s qxE qxE)) dd):RdE (k+1) bs lim W (.ok (dd,q)) (thA kd n s qxE qxE) q (0,0) :=
 fun W' hb=>⟨hb,.ok (dd,q),.inl rfl,hq,_,_,_,_,_,_,_,_,_,rfl,qyO (h W')⟩
theorem q1U (k:Nat)(W:World)(bs:List UInt8)(fm d l lim:Int)(i:Nat)(dp:Int)(x:Int×Int)(h2:qr0 bs l i 9=x)(hE:RdE (k+1) bs lim W R th0 0 x)(hw:qyb bs l i=false∨(qyb bs l i=true∧∃c,bs[i]? = some c∧(∀x,x∈[110,102,116,34,91,123,45]→¬c.toNat=x)∧((c.toNat:Int)<48∨57<(c.toNat:Int)))):Calls prog 115 #[.agg (inA bs fm d l),.int .i64 i,.int .i64 dp] W (qxV (k+1) bs lim W R):=by
 have cB1:=q11 fm d h2;have HX:=qzU W bs fm d l;have HE:=qaa hE;clear h2 hE;unfold inA;rcases hw with h1|⟨h1,c,hc,hn,hw|hw⟩
 all_goals
  have cH1:=qyz fm d h1;clear h1
  try
   have hix:=qxH bs i c hc;have hib:=ltL hc;simp only[List.mem_cons,List.not_mem_nil,or_false,forall_eq_or_imp,forall_eq] at hn;have t110:=nec (c:=c) 110 (by omega);have t102:=nec (c:=c) 102 (by omega);have t116:=nec (c:=c) 116 (by omega);have t34:=nec (c:=c) 34 (by omega);have t91:=nec (c:=c) 91 (by omega);have t123:=nec (c:=c) 123 (by omega);have t45:=nec (c:=c) 45 (by omega)
   first
    |have hd48:decide (48≤(c.toNat:Int))=false:=(by simp;omega)
    |(have h48:48≤(c.toNat:Int):=(by omega);have hd57:decide ((c.toNat:Int)≤57)=false:=(by simp;omega))
   clear hc hn
  go_enter func115,ntmps115
  go_wp2_with (first
   |(go_at_call 113;refine HX.out.ck (cH1 _) ?_;clear cH1;intro w2 HX2 c0 c1 c2 c3)
   |(go_at_call 71;refine HX2.out.ck (cB1 _) ?_;clear cB1 c0 c1 c2 c3;intro w3 HX3 c0 c1 c2 c3)
   |((with_reducible refine zT 6 _ rfl rfl (W.heap.size+1) (th0) ?_ ?_);exact⟨rfl,rfl,HX3.out.th,thg⟩)
   |((with_reducible refine zF 8 _ rfl rfl (W.heap.size+2) x ?_ ?_);exact⟨rfl,rfl,qyc HX3.out bwR _⟩))
  refine eoT results115 (qxQ HX3.out bwR _ _) (.int .i64 0) rfl rfl rfl rfl (HE.out _ (qxQ HX3.out bwR _ _).2.2)
theorem q10 (k:Nat)(W:World)(bs:List UInt8)(fm d l lim:Int)(i:Nat)(dp:Int)(c:UInt8)(hc:bs[i]? = some c)(h1:qyb bs l i=true)(v:Nat)(a:Array UInt8)(kd q:Int)(F:Int×Int)(hv:c.toNat=v)(hw:(v,a,kd)∈([(110,#[110,117,108,108],0),(102,#[102,97,108,115,101],1),(116,#[116,114,117,101],2)]:List (Nat×Array UInt8×Int)))(cW:∀V,Calls prog 170 #[.agg (inA bs fm d l),.int .i64 i,.string ⟨a⟩] V fun e W'=>e=.returned (.tuple #[.int .i64 q,.agg (qqp F)])∧Below V.heap.size V W')(hE:RdE (k+1) bs lim W R (thA kd 0 ⟨#[]⟩ qxE qxE) q F):Calls prog 115 #[.agg (inA bs fm d l),.int .i64 i,.int .i64 dp] W (qxV (k+1) bs lim W R):=by
 have hix:=q49 hc hv;have hib:=ltL hc;have cH1:=qyz fm d h1;have HX:=qzU W bs fm d l;have HE:=qaa hE;clear h1 hc hv hE;unfold inA at *;simp only[List.mem_cons,Prod.mk.injEq,List.not_mem_nil,or_false] at hw;rcases hw with h|h|h
 all_goals
  obtain⟨rfl,rfl,rfl⟩:=h
 let kd:Int:=0;let b:Nat:=40;rotate_left
 let kd:Int:=1;let b:Nat:=52;rotate_left
 let kd:Int:=2;let b:Nat:=64;rotate_left
 all_goals
  go_enter func115,ntmps115
  go_wp2_with (first
   |(go_at_call 113;refine HX.out.ck (cH1 _) ?_;clear cH1;intro w2 HX2 c0 c1 c2 c3)
   |(go_at_call 170;refine ck (cW _) HX2.out.next ?_;clear cW c0 c1 c2 c3;intro w3 HX3)
   |((with_reducible refine zF _ _ rfl rfl (w3.heap.size) F ?_ ?_);exact⟨rfl,rfl,qac w3 _⟩;refine nmd ?_;intro V4 EV4;have HX4:Hid (RTh W (inA bs fm d l) V4):=EV4▸HX3.out.next (qxR _ _);have HM:Hid (V4.heap[w3.heap.size]? = some (.cells (qqp F) 95)):=EV4▸setRow_heap _ _ _ _ _ _ (qac _ _);have HLT:Hid (W.heap.size+2<w3.heap.size):=ltA HX3.out.flt;clear EV4;generalize w3.heap.size=M at *))
  refine rgn (S:=fun Z=>Z.heap[M]? = some (.cells (qqp F) 95)) (HM.out) (by kernel_rfl) ?_;intro hS;refine tk 0 b (.agg (thA kd 0 ⟨#[]⟩ qxE qxE)) rfl (by kernel_rfl) iQ3 (fun Z hZ => ?y0) hS ?_
  case y0=>(unfold thA qxE;dsimp only [kd];go_simp)
  refine tkk 1 (b+1) (.int .i64 q) (by kernel_rfl) iQ3 hS ?_;refine tk 2 (b+2) (.agg (qqp F)) rfl (by kernel_rfl) iQ3 (fun Z hZ=>yF _ hZ rfl rfl) hS ?_;have hS3:=(setRow_other _ (W.heap.size+1) M (thA kd 0 ⟨#[]⟩ qxE qxE) (by have:=HLT.out;omega)).trans hS;refine sTh 3 6 b (W.heap.size+1) (thA kd 0 ⟨#[]⟩ qxE qxE) (by kernel_rfl) (HX4.out.drew.th) thg hS3 ?_;refine tkk 4 7 (.int .i64 q) (by kernel_rfl) iQ3 hS3 ?_;refine sF 5 8 (b+2) (W.heap.size+2) F (by kernel_rfl) (qyc HX4.out.drew bwR _) (sx (by have:=HLT.out;omega) hS3) ?_;refine wpAnyH_done (by kernel_rfl) ?_ _;dsimp only [b];go_simp;go_wp2;refine eoT results115 (qxQ HX4.out.drew bwR _ _) (.int .i64 q) rfl rfl rfl rfl (HE.out _ (qxQ HX4.out.drew bwR _ _).2.2)
theorem q2L (k:Nat)(W:World)(bs:List UInt8)(fm d l lim:Int)(i:Nat)(dp:Int)(c:UInt8)(hc:bs[i]? = some c)(h1:qyb bs l i=true)(s:ByteArray)(q:Int)(F:Int×Int)(hv:c.toNat=34)(cW:∀V,Calls prog 171 #[.agg (inA bs fm d l),.int .i64 i] V fun e W'=>e=.returned (.tuple #[.string s,.int .i64 q,.agg (qqp F)])∧Below V.heap.size V W')(hE:RdE (k+1) bs lim W R (thA 4 0 s qxE qxE) q F):Calls prog 115 #[.agg (inA bs fm d l),.int .i64 i,.int .i64 dp] W (qxV (k+1) bs lim W R):=by
 have hix:=q49 hc hv;have hib:=ltL hc;have cH1:=qyz fm d h1;have HX:=qzU W bs fm d l;have HE:=qaa hE;clear h1 hc hv hE;unfold inA at *;go_enter func115,ntmps115
 go_wp2_with (first
  |(go_at_call 113;refine HX.out.ck (cH1 _) ?_;clear cH1;intro w2 HX2 c0 c1 c2 c3)
  |(go_at_call 171;refine ck (cW _) HX2.out.next ?_;clear cW c0 c1 c2 c3;intro w3 HX3)
  |((with_reducible refine zF _ _ rfl rfl (w3.heap.size) F ?_ ?_);exact⟨rfl,rfl,qac w3 _⟩;refine nmd ?_;intro V4 EV4;have HX4:Hid (RTh W (inA bs fm d l) V4):=EV4▸HX3.out.next (qxR _ _);have HM:Hid (V4.heap[w3.heap.size]? = some (.cells (qqp F) 95)):=EV4▸setRow_heap _ _ _ _ _ _ (qac _ _);have HLT:Hid (W.heap.size+2<w3.heap.size):=ltA HX3.out.flt;clear EV4;generalize w3.heap.size=M at *))
 refine rgn (S:=fun Z=>Z.heap[M]? = some (.cells (qqp F) 95)) (HM.out) (by kernel_rfl) ?_;intro hS;refine tkk 0 77 (.string s) (by kernel_rfl) iQ3 hS ?_;refine tk 1 78 (.agg (thA 4 0 s qxE qxE)) rfl (by kernel_rfl) iQ3 (fun Z hZ => ?y0) hS ?_
 case y0=>(unfold thA qxE;go_simp)
 refine tkk 2 79 (.int .i64 q) (by kernel_rfl) iQ3 hS ?_;refine tk 3 80 (.agg (qqp F)) rfl (by kernel_rfl) iQ3 (fun Z hZ=>yF _ hZ rfl rfl) hS ?_;have hS3:=(setRow_other _ (W.heap.size+1) M (thA 4 0 s qxE qxE) (by have:=HLT.out;omega)).trans hS;refine sTh 4 6 78 (W.heap.size+1) (thA 4 0 s qxE qxE) (by kernel_rfl) (HX4.out.drew.th) thg hS3 ?_;refine tkk 5 7 (.int .i64 q) (by kernel_rfl) iQ3 hS3 ?_;refine sF 6 8 80 (W.heap.size+2) F (by kernel_rfl) (qyc HX4.out.drew bwR _) (sx (by have:=HLT.out;omega) hS3) ?_;refine wpAnyH_done (by kernel_rfl) ?_ _;go_simp;go_wp2;refine eoT results115 (qxQ HX4.out.drew bwR _ _) (.int .i64 q) rfl rfl rfl rfl (HE.out _ (qxQ HX4.out.drew bwR _ _).2.2)
theorem q0a (k:Nat)(W:World)(bs:List UInt8)(fm d l lim:Int)(i:Nat)(dp:Int)(c:UInt8)(hc:bs[i]? = some c)(h1:qyb bs l i=true)(hw:((c.toNat=91∨c.toNat=123)∧∀V,Calls prog 172 #[.agg (inA bs fm d l),.int .i64 i,.int .i64 dp] V (qxV (k+1) bs lim V R))∨((c.toNat=45∨(48≤(c.toNat:Int)∧(c.toNat:Int)≤57))∧∀V,Calls prog 173 #[.agg (inA bs fm d l),.int .i64 i] V (qxV (k+1) bs lim V R))):Calls prog 115 #[.agg (inA bs fm d l),.int .i64 i,.int .i64 dp] W (qxV (k+1) bs lim W R):=by
 have hib:=ltL hc;have cH1:=qyz fm d h1;have HX:=qzU W bs fm d l;clear h1;unfold inA at *;rcases hw with ⟨hw|hw,cc⟩|⟨hw|⟨h48,h57⟩,cc⟩
 all_goals
  have HCC:=qaa cc;clear cc
  first
   |(have hix:=q49 hc hw;clear hw)
   |(have hix:=qxH bs i c hc;have t110:=nec (c:=c) 110 (by omega);have t102:=nec (c:=c) 102 (by omega);have t116:=nec (c:=c) 116 (by omega);have t34:=nec (c:=c) 34 (by omega);have t91:=nec (c:=c) 91 (by omega);have t123:=nec (c:=c) 123 (by omega);have t45:=nec (c:=c) 45 (by omega))
  clear hc;go_enter func115,ntmps115
  go_wp2_with (first
   |(go_at_call 113;refine HX.out.ck (cH1 _) ?_;clear cH1;intro w2 HX2 c0 c1 c2 c3))
  refine(HCC.out _).mono ?_;clear c0 c1 c2 c3 HCC;rintro e w3 hrb;have hlt2:=ltA HX2.out.flt;obtain⟨hB3,r',kk,nn,s,a1,i1,j1,b1,p1,m1,z,F,hlo,rfl,hA,hF⟩:=qy2 hrb;have HX3:=qaa (HX2.out.next hB3);have HRB:=qaa hrb.2;clear hrb hlo hA hF hB3;simp only[]
  go_wp2_with (first
   |((with_reducible refine zT 6 _ rfl rfl (W.heap.size+1) (thA kk nn s (.slice a1 i1 j1) (.slice b1 p1 m1)) ?_ ?_);exact⟨rfl,rfl,HX3.out.th,thg⟩)
   |((with_reducible refine zF 8 _ rfl rfl (W.heap.size+2) F ?_ ?_);exact⟨rfl,rfl,qyc HX3.out bwR _⟩))
  refine eoT results115 (qxQ HX3.out bwR _ _) (.int .i64 z) rfl rfl rfl rfl ⟨(qxQ HX3.out bwR _ _).2.2,?_⟩;obtain⟨r2,h1,h2⟩:=HRB.out;refine⟨r2,h1,?_⟩
  cases r2 with
  |error f=>exact h2
  |ok y =>
   obtain⟨h1,kd,n',s',a',i',j',b',p',m',h2,h3⟩:=h2;exact⟨h1,kd,n',s',a',i',j',b',p',m',h2,q5F h3 HX2.out.below.size hlt2⟩
def qys (k:Nat)(V:World)(b:Nat)(u:Value)(ex:Nat→Prop)(ds:List (DataW Unit)):Prop :=
 ∃xs,V.ownsRow b 93 5 u ds.length xs∧∀(i:Nat) (d:DataW Unit),ds[i]? = some d→∃a,qzH xs i a∧qyi k V (fun j=>b≤j∧j<V.heap.size∧some j≠u.ownBlock∧¬ex j) (.agg a) d
theorem qy1 {base:Nat}{e:TypeId}{size:Nat}(ho:W.ownsRow base e size v n xs)(h:v.ownBlock=some g):g<W.heap.size:=by
 rcases ho.2 with ⟨h0,_⟩|⟨g',cap,cur,rfl,_,hg,_⟩
 ·subst h0;cases h
 cases h;exact ltA hg
theorem q2y {t:TypeId}{size:Nat}(h:V.ownsRow b t size u n xs)(hk:∀j,b≤j→j<V.heap.size→V'.heap[j]? = V.heap[j]?):V'.ownsRow b t size u n xs:=by
 refine⟨h.1,?_⟩;rcases h.2 with h2|⟨g,cap,cur,e,hb,hg,h3⟩
 ·exact .inl h2
 exact .inr ⟨g,cap,cur,e,hb,(hk g hb (ltA hg)).trans hg,h3⟩
theorem qys.next (h:qys k V b u ex ds)(hs:V.heap.size≤V'.heap.size)(hk:∀j,b≤j→j<V.heap.size→V'.heap[j]? = V.heap[j]?):qys k V' b u ex ds:=by
 obtain⟨xs,h1,h2⟩:=h;refine⟨xs,q2y h1 hk,fun i d hd => ?_⟩;obtain⟨a,e1,e2⟩:=h2 i d hd;exact⟨a,e1,e2.same (fun j hj=>⟨hj.1,by have:=hj.2.1;omega,hj.2.2⟩) (fun j hj=>hk j hj.1 hj.2.1)⟩
theorem q16 {ys:List Value}(hn:xs.length=n*5)(hi:i<n)(h:qzH xs i a):qzH (xs++ys) i a:=by
 unfold qzH at *;rw[List.drop_append_of_le_length (by omega),List.take_append_of_le_length (by rw[List.length_drop];omega)];exact h
theorem q18 (hn:xs.length=n*5)(ha:a.size=5):qzH (xs++a.toList) n a:=by
 unfold qzH;rw[show 5*n=xs.length by omega,List.drop_left,List.take_of_length_le (by simp;omega)]
theorem qys.push {w5:World}{L:Nat}{v':Value}{o:Obj}(h1:V.ownsRow b 93 5 u ds.length xs)(h2:∀(i:Nat) (d:DataW Unit),ds[i]? = some d→∃a,qzH xs i a∧qyi k V (fun j=>b≤j∧j<V.heap.size∧some j≠u.ownBlock∧¬ex j) (.agg a) d)(hkid:qyi k V (fun j=>L≤j∧j<V.heap.size) (.agg a) d)(hL:∀g,u.ownBlock=some g→g<L)(hb:b≤L)(hex:∀j,L≤j→¬ex j)(ha:a.size=5)(hown:w5.ownsRow b 93 5 v' (ds.length+1) (xs++a.toList))(hg:(V.alloc o).grownBy w5 u.ownBlock)(hw:v'.ownBlock=u.ownBlock∨v'.ownBlock=some (V.alloc o).heap.size):qys k w5 b v' ex (ds++[d]):=by
 have hgs:V.heap.size+1≤w5.heap.size:=by have:=hg.size;simpa using this
 have hkeep:∀j,j<V.heap.size→some j≠u.ownBlock→w5.heap[j]? = V.heap[j]?:=fun j hj hn=>(hg.block j (by simp;omega) hn).trans (Below.heap_alloc _ _ _ hj);have hne:∀j,j<V.heap.size→some j≠u.ownBlock→some j≠v'.ownBlock:=fun j hj hn=>by
  rcases hw with hw|hw
  ·rw[hw];exact hn
  rw[hw];intro e;injection e with e;simp at e;omega
 refine⟨xs++a.toList,by rw[List.length_append];exact hown,fun i dd hd => ?_⟩;by_cases hi:i<ds.length
 ·rw[List.getElem?_append_left hi] at hd;obtain⟨a',e1,e2⟩:=h2 i dd hd;exact⟨a',q16 h1.1 hi e1,e2.same (fun j hj=>⟨hj.1,by have:=hj.2.1;omega,hne j hj.2.1 hj.2.2.1,hj.2.2.2⟩) (fun j hj=>hkeep j hj.2.1 hj.2.2.1)⟩
 have e:i=ds.length:=by
  have:=ltL hd;rw[List.length_append] at this;simp at this;omega
 subst e;rw[List.getElem?_append_right (Nat.le_refl _),Nat.sub_self] at hd;injection hd with hd;subst hd;have hno:∀j,L≤j→some j≠u.ownBlock:=fun j hj e=>by have:=hL j e.symm;omega
 exact⟨a,q18 h1.1 ha,hkid.same (fun j hj=>⟨by have:=hj.1;omega,by have:=hj.2;omega,hne j hj.2 (hno j hj.1),hex j hj.1⟩) (fun j hj=>hkeep j hj.2 (hno j hj.1))⟩
theorem qys.list (h:qys k V b u ex ds)(hB:B≤b):qyi (k+1) V (fun j=>B≤j∧j<V.heap.size) (.agg (thA 6 0 ⟨#[]⟩ qxE u)) (.agg ds):=by
 obtain⟨xs,h1,h2⟩:=h;refine⟨u,xs,rfl,qyq h1 _ (fun g hg1 hg2=>⟨by omega,hg2⟩),fun i d hd => ?_⟩;obtain⟨a,e1,e2⟩:=h2 i d hd;exact⟨a,e1,e2.same (fun j hj=>⟨by have:=hj.1;omega,hj.2.1⟩) (fun _ _=>rfl)⟩
theorem qzz (k:Nat)(V:World)(b:Nat)(ex:Nat→Prop):qys k V b qxE ex []:=⟨[],World.ownsRow_nil _ _ _ _,fun i d h=>by simp at h⟩
def q5A {α:Type}(bs:List UInt8)(lim:Int)(itF:α→Nat→Except (Int×Int) (α×Nat))(last g p1:Nat)(acc:α):Except (Int×Int) (α×Nat):=match itF acc p1 with
   |.error e=>.error e
   |.ok (acc',p2)=>match spF bs lim (bs.length+1-p2) p2 with
    |.error e=>.error e
    |.ok (_,p3)=>match bs[p3]? with
     |none=>.error (9,p3)
     |some c=>if (p3:Int)=lim then .error (8,p3) else if c.toNat=last then .ok (acc',p3+1) else if c.toNat=44 then qgW bs lim itF last g (p3+1) acc' else .error (9,p3)
theorem q1u {α:Type}(bs:List UInt8)(lim:Int)(itF:α→Nat→Except (Int×Int) (α×Nat))(last g p:Nat)(acc:α):qgW bs lim itF last (g+1) p acc=match spF bs lim (bs.length+1-p) p with
  |.error e=>.error e
  |.ok (_,p1)=>q5A bs lim itF last g p1 acc:=by
 rw[qgW];rfl
def q0o {α:Type}(bs:List UInt8)(lim:Int)(itF:α→Nat→Except (Int×Int) (α×Nat))(last g p:Nat)(acc:α)(R:Except (Int×Int) (α×Nat)):Prop :=
 InR bs lim p∧((∃g',g=g'+1∧q5A bs lim itF last g' p acc=R)∨((p:Int)=lim∧p<bs.length∧R=.error (8,(p:Int))))
theorem q58 {α:Type}(hl:Lm bs l lim){itF:α→Nat→Except (Int×Int) (α×Nat)}{acc:α}{R:Except (Int×Int) (α×Nat)}(hi:InR bs lim p)(hR:qgW bs lim itF last (g+1) p acc=R):q0o bs lim itF last (g+1) (skR bs l (bs.length+1-p) p) acc R:=by
 rw[q1u] at hR;rcases q0r hl (bs.length+1-p) p hi with ⟨q,h1,h2,h3,h4,_⟩|⟨q,h1,h2,h3,h4⟩
 ·rw[h1] at hR;rw[h2];exact⟨h3,.inl ⟨g,rfl,hR⟩⟩
 rw[h1] at hR;rw[h2];exact⟨⟨by omega,by omega⟩,.inr ⟨h3,h4,hR.symm⟩⟩
theorem Tryz.infoThR:(prog.info? 93).map (fun i=>(i.zero,i.size,i.bytes))=some (some (.agg th0),5,80):=by kernel_rfl
structure qzg (W:World)(A:Array Value)(y:Array Value)(V:World):Prop where
 box:V.heap[W.heap.size]? = some (.cells A 143)
 th:V.heap[W.heap.size+1]? = some (.cells th0 93)
 flt:V.heap[W.heap.size+2]? = some (.cells (qqp (0,0)) 95)
 tv:V.heap[W.heap.size+3]? = some (.cells y 93)
 below:Below W.heap.size W V
theorem qzg.rth (h:qzg W A y V):RTh W A V:=⟨h.box,h.th,h.flt,h.below⟩
theorem qzg.next (h:qzg W A y V)(hb:Below V.heap.size V V'):qzg W A y V' :=
 ⟨(hb.block _ (ltA h.box)).trans h.box,(hb.block _ (ltA h.th)).trans h.th,(hb.block _ (ltA h.flt)).trans h.flt,(hb.block _ (ltA h.tv)).trans h.tv,h.below.trans (hb.mono h.below.size)⟩
theorem qzg.size (h:qzg W A y V):W.heap.size+4≤V.heap.size:=ltA h.tv
theorem q2A (W:World)(A y:Array Value):qzg W A y (((((W.alloc (.cells A 143)).alloc (.cells th0 93)).alloc (.cells (qqp (0,0)) 95)).alloc (.cells th0 93)).setRow (W.heap.size+3) y):=by
 have h:=q4v W A;have hs:(((W.alloc (.cells A 143)).alloc (.cells th0 93)).alloc (.cells (qqp (0,0)) 95)).heap.size=W.heap.size+3:=by simp
 have hn:=qac (((W.alloc (.cells A 143)).alloc (.cells th0 93)).alloc (.cells (qqp (0,0)) 95)) (.cells th0 93);rw[hs] at hn;generalize (((W.alloc (.cells A 143)).alloc (.cells th0 93)).alloc (.cells (qqp (0,0)) 95))=V at *;have h2:=h.next (bwO (.cells th0 93))
 exact⟨sx (by omega) h2.box,sx (by omega) h2.th,sx (by omega) h2.flt,setRow_heap _ _ _ _ _ _ hn,qah h2.below (by omega) _⟩
theorem q2T (W:World)(A:Array Value):((((W.alloc (.cells A 143)).alloc (.cells th0 93)).alloc (.cells (qqp (0,0)) 95)).alloc (.cells th0 93)).heap[W.heap.size+3]? = some (.cells th0 93):=by
 have hs:(((W.alloc (.cells A 143)).alloc (.cells th0 93)).alloc (.cells (qqp (0,0)) 95)).heap.size=W.heap.size+3:=by simp
 have hn:=qac (((W.alloc (.cells A 143)).alloc (.cells th0 93)).alloc (.cells (qqp (0,0)) 95)) (.cells th0 93);rw[hs] at hn;exact hn
theorem q1I (wr w2:World)(a:Array Value)(f:Array Value)(hB:Below (wr.heap.size+2) ((wr.alloc (.cells (qqp (0,0)) 95)).alloc (.cells th0 93)) w2):Below wr.heap.size wr ((w2.setRow (wr.heap.size+1) a).setRow wr.heap.size f) :=
 qah (qah (((bwA).alloc (by simp) _).trans (hB.mono (by omega))) (by omega) _) (Nat.le_refl _) _
def liR (r:Except (Int×Int) (List (DataW Unit)×Nat)):Except (Int×Int) (DataW Unit×Nat):=match r with
 |.error e=>.error e
 |.ok (ds,q)=>.ok (.agg ds,q)
theorem q2S (h:∀g',spF bs lim g' q=.ok ((),q))(hc:bs[q]? = some c):¬(q:Int)=lim:=fun e=>by
 have:=h 1;rw[spF,hc] at this;simp only[] at this;rw[if_pos e] at this;cases this
theorem q0A {α:Type}(hl:Lm bs l lim){itF:α→Nat→Except (Int×Int) (α×Nat)}{p1:Nat}{acc:α}{R:Except (Int×Int) (α×Nat)}(hi:InR bs lim p)(hp1:p1=skR bs l (bs.length+1-p) p)(hR:qe4 bs lim itF last p acc=R):InR bs lim p1∧((∃c,bs[p1]? = some c∧qyb bs l p1=true∧c.toNat=last∧R=.ok (acc,p1+1)∧InR bs lim (p1+1))∨((qyb bs l p1=false∨∃c,bs[p1]? = some c∧qyb bs l p1=true∧¬c.toNat=last)∧q0o bs lim itF last (bs.length+1-p1) p1 acc R)):=by
 unfold qe4 at hR;rcases q0r hl (bs.length+1-p) p hi with ⟨q,h1,h2,h3,h4,h5⟩|⟨q,h1,h2,h3,h4⟩
 ·rw[h2] at hp1;subst hp1;rw[h1] at hR;simp only[] at hR;have hid:=h5 (by have:=hi.1;omega);refine⟨h3,?_⟩;have hits:∀R',qgW bs lim itF last (bs.length+1-p1) p1 acc=R'→q0o bs lim itF last (bs.length+1-p1) p1 acc R':=fun R' hR'=>by
   obtain⟨g,hg⟩:∃g,bs.length+1-p1=g+1:=⟨bs.length-p1,by have:=h3.1;omega⟩
   rw[hg] at hR' ⊢;rw[q1u,hg,hid (g+1)] at hR';exact⟨h3,.inl ⟨g,rfl,hR'⟩⟩
  cases hc:bs[p1]? with
  |none =>
   rw[hc] at hR;exact .inr ⟨.inl (qxS hc),hits R hR⟩
  |some c =>
   rw[hc] at hR;simp only[] at hR;have hne:=q2S hid hc;rw[if_neg hne] at hR;have hh:=qxO hl h3 hc hne;by_cases hlast:c.toNat=last
   ·rw[if_pos hlast] at hR;exact .inl ⟨c,rfl,hh,hlast,hR.symm,qxJ h3 hc hne⟩
   rw[if_neg hlast] at hR;exact .inr ⟨.inr ⟨c,rfl,hh,hlast⟩,hits R hR⟩
 rw[h2] at hp1;subst hp1;rw[h1] at hR;simp only[] at hR;obtain⟨c,hc⟩:∃c,bs[p1]? = some c:=⟨_,List.getElem?_eq_getElem h4⟩
 have h3':InR bs lim p1:=⟨by omega,by omega⟩
 exact⟨h3',.inr ⟨.inl (qyg hl hc h3),h3',.inr ⟨h3,h4,hR.symm⟩⟩⟩
theorem q1m {α:Type}(hl:Lm bs l lim){itF:α→Nat→Except (Int×Int) (α×Nat)}{p2 p3:Nat}{acc acc':α}{R:Except (Int×Int) (α×Nat)}(hi:InR bs lim p2)(hp3:p3=skR bs l (bs.length+1-p2) p2)(hit:itF acc p=.ok (acc',p2))(hR:q5A bs lim itF last g p acc=R):InR bs lim p3∧p2≤p3∧((qyb bs l p3=false∧R=.error (qr0 bs l p3 9))∨∃c,bs[p3]? = some c∧qyb bs l p3=true∧((c.toNat=last∧R=.ok (acc',p3+1)∧InR bs lim (p3+1))∨(¬c.toNat=last∧c.toNat=44∧InR bs lim (p3+1)∧qgW bs lim itF last g (p3+1) acc'=R)∨(¬c.toNat=last∧¬c.toNat=44∧R=.error (qr0 bs l p3 9)))):=by
 unfold q5A at hR;rw[hit] at hR;simp only[] at hR;rcases q0r hl (bs.length+1-p2) p2 hi with ⟨q,h1,h2,h3,h4,h5⟩|⟨q,h1,h2,h3,h4⟩
 ·rw[h2] at hp3;subst hp3;rw[h1] at hR;simp only[] at hR;refine⟨h3,h4,?_⟩
  cases hc:bs[p3]? with
  |none =>
   rw[hc] at hR;exact .inl ⟨qxS hc,by rw[qxY h3.1 hc];exact hR.symm⟩
  |some c =>
   rw[hc] at hR;simp only[] at hR;have hne:=q2S (h5 (by have:=hi.1;omega)) hc;rw[if_neg hne] at hR;refine .inr ⟨c,rfl,qxO hl h3 hc hne,?_⟩;by_cases hlast:c.toNat=last
   ·rw[if_pos hlast] at hR;exact .inl ⟨hlast,hR.symm,qxJ h3 hc hne⟩
   rw[if_neg hlast] at hR;by_cases h44:c.toNat=44
   ·rw[if_pos h44] at hR;exact .inr (.inl ⟨hlast,h44,qxJ h3 hc hne,hR⟩)
   rw[if_neg h44] at hR;exact .inr (.inr ⟨hlast,h44,by rw[qxT hl h3 hc hne];exact hR.symm⟩)
 rw[h2] at hp3;subst hp3;rw[h1] at hR;simp only[] at hR;obtain⟨c,hc⟩:∃c,bs[p3]? = some c:=⟨_,List.getElem?_eq_getElem h4⟩
 refine⟨⟨by omega,by omega⟩,by have:=hi.2;omega,.inl ⟨qyg hl hc h3,?_⟩⟩;rw[qxW hl hc h3];exact hR.symm
theorem q2q (hl:Lm bs l lim)(h3:(q:Int)=lim)(h4:q<bs.length):skR bs l (bs.length+1-q) q=q∧qyb bs l q=false∧qr0 bs l q 9=(8,(q:Int)):=by
 obtain⟨c,hc⟩:∃c,bs[q]? = some c:=⟨_,List.getElem?_eq_getElem h4⟩
 refine⟨?_,qyg hl hc h3,qxW hl hc h3 9⟩;rcases q0r hl (bs.length+1-q) q ⟨by omega,by omega⟩ with ⟨q',h1,h2,h3',h4',_⟩|⟨q',h1,h2,h3',h4'⟩
 ·have:=h3'.2;rw[h2];omega
 rw[h2];omega
end
end Go.Proofs.YtllcbnfmihfaaaaGreatDoor
