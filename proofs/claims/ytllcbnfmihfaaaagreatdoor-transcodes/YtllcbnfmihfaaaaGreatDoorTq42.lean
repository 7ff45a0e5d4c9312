import Derived.Test.YtllcbnfmihfaaaaGreatDoorTq40
import Derived.Test.YtllcbnfmihfaaaaGreatDoorTq41
import Derived.Test.YtllcbnfmihfaaaaGreatDoorTq35
set_option maxRecDepth 100000
set_option maxHeartbeats 8000000
namespace Go.Proofs.YtllcbnfmihfaaaaGreatDoor
open Go.Proofs.Tryz
variable {bs:List UInt8}{p:Nat}{c:UInt8}
section
open Go.RowKit Go.Lib
theorem qzc (k:Nat)(W:World)(bs:List UInt8)(fm d l lim:Int)(i:Nat)(dp:Int)(c:UInt8)(hc:bs[i]? = some c)(hp:¬(i:Int)=lim)(hl:Lm bs l lim)(hi:InR bs lim i)(hd:d≤dp):Calls prog 172 #[.agg (inA bs fm d l),.int .i64 i,.int .i64 dp] W (qxV k bs lim W (.error (11,(i:Int)))):=by
 have hdf:decide (d≤dp)=true:=by simpa using hd
 have cB1:∀V,Calls prog 71 #[.agg #[.string ⟨bs.toArray⟩,.int .i64 fm,.int .i64 d,.int .i64 l],.int .i64 i,.int .i64 11] V fun e W'=>e=.returned (.agg (qqp (11,(i:Int))))∧Below V.heap.size V W':=fun V=>by
  have h:=qyv V bs fm d l i 11;rw[qxT hl hi hc hp] at h;exact h
 have HX:=qzU W bs fm d l;clear hc hp hl hi hd;unfold inA;go_enter func172,ntmps172
 go_wp2_with (first
  |(go_at_call 71;refine ck4 (cB1 _) HX.out.next (fun _ h=>h.box) ?_;clear cB1;intro w3 HX3 c0 c1 c2 c3)
  |((with_reducible refine zT 6 17 rfl rfl (W.heap.size+1) (th0) ?_ ?_);exact⟨rfl,rfl,HX3.out.th,thg⟩)
  |((with_reducible refine zF 8 20 rfl rfl (W.heap.size+2) (11,(i:Int)) ?_ ?_);exact⟨rfl,rfl,qyc HX3.out bwR _⟩))
 have hf:=qxQ HX3.out bwR (th0) (11,(i:Int));refine eoT results172 hf (.int .i64 0) rfl rfl rfl rfl ⟨hf.2.2,?_⟩;exact⟨.error (11,(i:Int)),.inl rfl,_,_,_,_,_,_,_,_,_,_,rfl⟩
theorem q6f (s:Src)(c:UInt8)(p:Nat):Bad (nmS s c p):=qqA _ _
theorem q4t {l:Int}(hc:bs[p]? = some c)(h:qcQ c=false):q0j bs l p=false:=by
 unfold q0j;rw[hc];simp only[];rw[h,Bool.and_false]
theorem q3b (h:qcQ c=true):48≤(c.toNat:Int)∧(c.toNat:Int)≤57:=of_decide_eq_true h
theorem q6c (h:¬qcQ c=true):(c.toNat:Int)<48∨57<(c.toNat:Int):=by
 have h2:¬(48≤(c.toNat:Int)∧(c.toNat:Int)≤57):=fun h3=>h (decide_eq_true h3);omega
theorem q3j (W:World)(bs:List UInt8)(fm d l lim:Int)(i:Nat)(c:UInt8)(hc:bs[i]? = some c)(hv:c.toNat=45∨qcQ c=true)(hp:¬(i:Int)=lim)(hl:Lm bs l lim)(hi:InR bs lim i)(hb:bs.length≤200000000)(s:Src)(hs1:s.bs=bs)(hs2:s.lim=lim):Calls prog 173 #[.agg (inA bs fm d l),.int .i64 i] W fun e W'=>q2c bs lim (nmS s c (i+1)) e∧Below W.heap.size W W':=by
 subst hs1;subst hs2;unfold nmS qg4;simp only[];have hin:=qxJ hi hc hp;by_cases h45:c.toNat=45
 ·rw[if_pos h45];have hno:∀x,q0j s.bs l (i+1)=false→qr0 s.bs l (i+1) 9=x→Calls prog 173 #[.agg (inA s.bs fm d l),.int .i64 i] W fun e W'=>q2c s.bs s.lim (.error x) e∧Below W.heap.size W W':=fun x h1 h2=>(q1R W s.bs fm d l i c hc h45 hb x h1 h2).mono fun e W' h=>⟨⟨.error x,.inl rfl,(fun z q e=>by cases e),h.1⟩,h.2⟩
  cases hc1:s.bs[i+1]? with
  |none =>
   simp only[];exact hno _ (q2w (qxS hc1)) (qxY hin.1 hc1 9)
  |some c1 =>
   simp only[];by_cases hp1:((i+1:Nat):Int)=s.lim
   ·rw[if_pos hp1];exact hno _ (q2w (qyg hl hc1 hp1)) (qxW hl hc1 hp1 9)
   rw[if_neg hp1];by_cases hd1:qcQ c1=true
   ·rw[if_pos hd1];have h:=q2B W s.bs fm d l s.lim i (i+1) _ true c c1 hc (.inl ⟨rfl,h45,rfl,rfl⟩) hc1 hd1 hp1 hl hin hb;unfold sgn at h;simp only[if_true] at h;exact h
   rw[if_neg hd1];exact hno _ (q4t hc1 (by simpa using hd1)) (qxT hl hin hc1 hp1 9)
 rw[if_neg h45];have hd1:qcQ c=true:=hv.resolve_left h45;have h:=q2B W s.bs fm d l s.lim i i _ false c c hc (.inr ⟨rfl,h45,rfl,rfl⟩) hc hd1 hp hl hi hb;unfold sgn at h;simp only[Bool.false_eq_true,if_false] at h;exact h
theorem q33 {lim depth:Int}{nm:UInt8→Nat→Except (Int×Int) (Int×Nat)}{g wi:Nat}(hp:(p:Int)=lim)(hl:p<bs.length):thJ bs lim depth nm (g+1) wi p=.error (8,(p:Int)):=by
 rw[thJ,List.getElem?_eq_getElem hl];simp only[];rw[if_pos hp]
theorem q0S (s:Src)(fm l:Int)(hl:Lm s.bs l s.lim)(hb:s.bs.length≤200000000)(hd2:s.depth≤100000):∀(g wi:Nat) (W:World) (i:Nat),(wi:Int)≤s.depth→s.depth<wi+g→InR s.bs s.lim i →
  Calls prog 115 #[.agg (inA s.bs fm s.depth l),.int .i64 i,.int .i64 wi] W (qxV g s.bs s.lim W (thJ s.bs s.lim s.depth (nmS s) g wi i))
 |0,wi,W,i,h1,h2,_=>absurd h2 (by omega)
 |g+1,wi,W,i,h1,h2,hi=>by
  have hbad:∀p,(wi:Int)+1≤s.depth→Bad (thJ s.bs s.lim s.depth (nmS s) g (wi+1) p):=fun p h=>qnJ s.bs s.lim s.depth (nmS s) (fun c p=>q6f s c p) g (wi+1) p (by omega) (by omega);have hlm:(wi:Int)<s.depth→∀p:Nat,(p:Int)=s.lim→p<s.bs.length→thJ s.bs s.lim s.depth (nmS s) g (wi+1) p=.error (8,(p:Int)):=fun h p h3 h4=>by
   obtain⟨g',rfl⟩:∃g',g=g'+1:=⟨g-1,by omega⟩
   exact q33 h3 h4
  rw[thJ]
  cases hc:s.bs[i]? with
  |none=>exact q1U g W s.bs fm s.depth l s.lim i wi _ (qxY hi.1 hc 9) (q1x _) (.inl (qxS hc))
  |some c =>
   simp only[];by_cases hp:(i:Int)=s.lim
   ·rw[if_pos hp];exact q1U g W s.bs fm s.depth l s.lim i wi _ (qxW hl hc hp 9) (q1x _) (.inl (qyg hl hc hp))
   rw[if_neg hp];have hh:=qxO hl hi hc hp;have hwd:∀(c0:UInt8) (xs:List UInt8) (kd:Int) (dd:DataW Unit),c=c0→(c0.toNat,(c0::xs).toArray,kd)∈([(110,#[110,117,108,108],0),(102,#[102,97,108,115,101],1),(116,#[116,114,117,101],2)]:List (Nat×Array UInt8×Int))→(∀W':World,qyi 1 W' (fun j=>W.heap.size≤j∧j<W'.heap.size) (.agg (thA kd 0 ⟨#[]⟩ qxE qxE)) dd)→(c0::xs).length≤10→Calls prog 115 #[.agg (inA s.bs fm s.depth l),.int .i64 i,.int .i64 wi] W (qxV (g+1) s.bs s.lim W (match qaT s.bs s.lim xs (i+1) with
     |.error e=>.error e
     |.ok (_,q)=>.ok (dd,q))):=fun c0 xs kd dd h1 h2 h3 h4=>by
    have cW:=fun V=>qzD V s.bs fm s.depth l s.lim i (c0::xs) (Nat.le_trans h4 (by decide)) hl hi hb;rw[q4u (xs:=xs) hc hp h1] at cW
    cases hr:qaT s.bs s.lim xs (i+1) with
    |error f =>
     rw[hr] at cW;exact q10 g W s.bs fm s.depth l s.lim i wi c hc hh _ _ _ _ _ (by rw[h1]) h2 cW (q1x f)
    |ok r =>
     obtain⟨u,q⟩:=r;rw[hr] at cW;exact q10 g W s.bs fm s.depth l s.lim i wi c hc hh _ _ _ _ _ (by rw[h1]) h2 cW (q56 (qyJ xs (i+1) q (qxJ hi hc hp) hr).2 h3)
   unfold qqi;by_cases h110:c.toNat=110
   ·rw[if_pos h110];exact hwd 110 [117,108,108] 0 _ (by apply UInt8.toNat_inj.1;rw[h110];rfl) (by decide) (fun _=>rfl) (by decide)
   rw[if_neg h110];by_cases h116:c.toNat=116
   ·rw[if_pos h116];exact hwd 116 [114,117,101] 2 _ (by apply UInt8.toNat_inj.1;rw[h116];rfl) (by decide) (fun _=>rfl) (by decide)
   rw[if_neg h116];by_cases h102:c.toNat=102
   ·rw[if_pos h102];exact hwd 102 [97,108,115,101] 1 _ (by apply UInt8.toNat_inj.1;rw[h102];rfl) (by decide) (fun _=>rfl) (by decide)
   rw[if_neg h102];by_cases h34:c.toNat=34
   ·rw[if_pos h34];have cQ:=fun V=>qyA V s.bs fm s.depth l s.lim i hl (qxJ hi hc hp) hb
    cases hr:qfe s.bs s.lim (s.bs.length+1-(i+1)) (i+1) [] 0 with
    |error f =>
     rw[hr] at cQ;exact q2L g W s.bs fm s.depth l s.lim i wi c hc hh _ _ _ h34 cQ (q1x f)
    |ok r =>
     obtain⟨x,q⟩:=r;rw[hr] at cQ;exact q2L g W s.bs fm s.depth l s.lim i wi c hc hh _ _ _ h34 cQ (q56 (qzJ _ (i+1) [] 0 x q (qxJ hi hc hp) hr) fun _=>rfl)
   rw[if_neg h34];have ei:((i+1:Nat):Int)-1=(i:Int):=by omega
   by_cases h91:c.toNat=91
   ·rw[if_pos h91];refine q0a g W s.bs fm s.depth l s.lim i wi c hc hh (.inl ⟨.inl h91,fun V => ?_⟩);by_cases hd:(wi:Int)=s.depth
    ·rw[if_pos hd,ei];exact qzc (g+1) V s.bs fm s.depth l s.lim i wi c hc hp hl hi (by omega)
    rw[if_neg hd];exact q01 g V s.bs fm s.depth l s.lim i wi c hc h91 hp hl hi hb (by omega) (by omega) hd2 _ (fun p=>hbad p (by omega)) (hlm (by omega)) (fun p x q h=>qov s _ _ _ _ _ h) (fun V' p _ hip=>q0S s fm l hl hb hd2 g (wi+1) V' p (by omega) (by omega) hip)
   rw[if_neg h91];by_cases h123:c.toNat=123
   ·rw[if_pos h123];refine q0a g W s.bs fm s.depth l s.lim i wi c hc hh (.inl ⟨.inr h123,fun V => ?_⟩);by_cases hd:(wi:Int)=s.depth
    ·rw[if_pos hd,ei];exact qzc (g+1) V s.bs fm s.depth l s.lim i wi c hc hp hl hi (by omega)
    rw[if_neg hd];exact q0X g V s.bs fm s.depth l s.lim i wi c hc h123 hp hl hi hb (by omega) (by omega) hd2 _ (fun p=>hbad p (by omega)) (hlm (by omega)) (fun p x q h=>qov s _ _ _ _ _ h) (fun V' p hip=>q0S s fm l hl hb hd2 g (wi+1) V' p (by omega) (by omega) hip)
   rw[if_neg h123];by_cases hnm:c.toNat=45∨qcQ c=true
   ·rw[if_pos hnm];have hN:∀V,Calls prog 173 #[.agg (inA s.bs fm s.depth l),.int .i64 i] V fun e W'=>q2c s.bs s.lim (nmS s c (i+1)) e∧Below V.heap.size V W':=fun V=>q3j V s.bs fm s.depth l s.lim i c hc hnm hp hl hi hb s rfl rfl;refine q0a g W s.bs fm s.depth l s.lim i wi c hc hh (.inr ⟨hnm.imp id fun h=>by have:=q3b h;omega,fun V=>(hN V).mono fun e W' h => ?_⟩);obtain⟨⟨r',h1,h2,h3⟩,h4⟩:=h
    cases r' with
    |error f=>exact⟨h4,.error f,q5j h1,_,_,_,_,_,_,_,_,_,_,h3⟩
    |ok x=>exact⟨h4,.ok (.lit (.int .i64 x.1),x.2),q6s h1,(h2 _ _ rfl).1,_,_,_,_,_,_,_,_,_,h3,qyO ⟨rfl,(h2 _ _ rfl).2⟩⟩
   rw[if_neg hnm,ei];have h45:¬c.toNat=45:=fun h=>hnm (.inl h);have hnd:¬qcQ c=true:=fun h=>hnm (.inr h);have hb9:=qxT hl hi hc hp 9;exact q1U g W s.bs fm s.depth l s.lim i wi _ hb9 (q1x _) (.inr ⟨hh,c,hc,fun x hx=>by simp at hx;omega,by have:=q6c hnd;omega⟩)
def qbd:Nat→DataW Unit→List UInt8
 |0,_=>[]
 |k+1,d=>match d with
  |.lit (.bool b)=>bif b then [116,114,117,101] else [102,97,108,115,101]
  |.lit (.int .i64 z)=>Lib.itoa z
  |.lit (.string l)=>jsT l
  |.agg ds=>([91]++qc5 (qbd k) ds)++[93]
  |.map es=>([123]++qc5 (qfn (qbd k)) es)++[125]
  |_=>[110,117,108,108]
theorem qoz (W:World)(base:Nat)(v:Value)(a':Option Addr)(n' c':Nat)(bs:List UInt8)(hl:bs.length≤999999999)(h:Own W base v bs):Calls prog 109 #[v,.iface 202 (.slice a' n' c')] W fun e W'=>∃v',e=.returned v'∧Own W' base v' (bs++[110,117,108,108])∧Below base W W':=by
 obtain⟨i0,hi,hz0,hz1,hz2⟩:=info_parts Tryz.infoU8;obtain⟨a,n,c,rfl⟩:=h.2.2;have HO:=qaa h;have ta0:=qbL a' n' c';have ta1:=qb3 a' n' c';have ta2:=qbX a' n' c';have ta3:∀w:World,(Instr.typeAssert (.iface 202 (.slice a' n' c')) 81 204 true).run prog w=.ok (.tuple #[.slice none 0 0,.bool false]) w:=fun w=>by kernel_rfl
 have ta4:∀w:World,(Instr.typeAssert (.iface 202 (.slice a' n' c')) 81 206 true).run prog w=.ok (.tuple #[.slice none 0 0,.bool false]) w:=fun w=>by kernel_rfl
 have hsz:(⟨([110,117,108,108]:List UInt8).toArray⟩:ByteArray).size=4:=rfl;go_enter func109,ntmps109
 go_wp2_with (first
  |(at_builtin;refine wpList_append_own_string _ rfl _ _ 28 9 rfl base 5 i0 underlying28 underlying9 hi hz0 hz1 hz2 _ _ _ rfl HO.out.1 ⟨[110,117,108,108].toArray⟩ rfl (by rw[hsz];unfold maxLen;omega) (by rw[hsz];omega) HO.out.2.1 ?_;intro v' w5 hown' hgrow5 hnil5;have HN:=qaa (qaL HO.out hown' hgrow5)))
 go_ret;exact⟨_,rfl,HN.out⟩
theorem qtX (W:World)(base:Nat)(v:Value)(bs:List UInt8)(z:Int)(hn1 : -9223372036854775808≤z)(hn2:z≤9223372036854775807)(hl:bs.length≤999999999)(h:Own W base v bs)(ht:qiG base W):Calls prog 109 #[v,.iface 279 (.int .i64 z)] W fun e W'=>∃v',e=.returned v'∧Own W' base v' (bs++Lib.itoa z)∧Below base W W':=by
 have cA:=qhQ W base v bs z hn1 hn2 hl h ht;obtain⟨a,n,c,rfl⟩:=h.2.2;have ta0:=qdt z;have ta1:=qfJ z;go_enter func109,ntmps109
 go_wp2_with (first
  |(go_at_call 159;refine cA.mono ?_;rintro e w6 ⟨v6,rfl,h6,hB6⟩;obtain⟨h61,h62,a6,n6,c6,rfl⟩:=h6))
 go_ret;exact⟨_,rfl,⟨h61,h62,_,_,_,rfl⟩,hB6⟩
theorem qtB (W:World)(base:Nat)(v:Value)(bs l:List UInt8)(hl:bs.length+(jsT l).length≤999999999)(h:Own W base v bs):Calls prog 109 #[v,.iface 281 (.string ⟨l.toArray⟩)] W fun e W'=>∃v',e=.returned v'∧Own W' base v' (bs++jsT l)∧Below base W W':=by
 have cA:=qil W base v ⟨l.toArray⟩ bs hl h;have e9:jsT (⟨l.toArray⟩:ByteArray).data.toList=jsT l:=rfl;rw[e9] at cA;obtain⟨a,n,c,rfl⟩:=h.2.2;have ta0:=qdU ⟨l.toArray⟩;have ta1:=qdi ⟨l.toArray⟩;have ta2:=qeH ⟨l.toArray⟩;go_enter func109,ntmps109
 go_wp2_with (first
  |(go_at_call 160;refine cA.mono ?_;rintro e w6 ⟨v6,rfl,h6,hB6,_⟩;obtain⟨h61,h62,a6,n6,c6,rfl⟩:=h6))
 go_ret;exact⟨_,rfl,⟨h61,h62,_,_,_,rfl⟩,hB6⟩
theorem qsR (W:World)(base:Nat)(v:Value)(q:Option Addr)(m cap:Nat)(ys:List UInt8)(ho:∃a n c,v=.slice a n c)(cA:Calls prog 161 #[v,.slice q m cap] W fun e W'=>∃v',e=.returned v'∧Own W' base v' ys∧Below base W W'):Calls prog 109 #[v,.iface 204 (.slice q m cap)] W fun e W'=>∃v',e=.returned v'∧Own W' base v' ys∧Below base W W':=by
 obtain⟨a,n,c,rfl⟩:=ho;have ta0:=qdI q m cap;have ta1:=qda q m cap;have ta2:=qeI q m cap;have ta4:=qeC q m cap;go_enter func109,ntmps109
 go_wp2_with (first
  |(go_at_call 161;refine cA.mono ?_;rintro e w6 ⟨v6,rfl,h6,hB6⟩;obtain⟨h61,h62,a6,n6,c6,rfl⟩:=h6))
 go_ret;exact⟨_,rfl,⟨h61,h62,_,_,_,rfl⟩,hB6⟩
theorem qvk (W:World)(base:Nat)(v:Value)(q:Option Addr)(m cap:Nat)(ys:List UInt8)(ho:∃a n c,v=.slice a n c)(cA:Calls prog 162 #[v,.slice q m cap] W fun e W'=>∃v',e=.returned v'∧Own W' base v' ys∧Below base W W'):Calls prog 109 #[v,.iface 206 (.slice q m cap)] W fun e W'=>∃v',e=.returned v'∧Own W' base v' ys∧Below base W W':=by
 obtain⟨a,n,c,rfl⟩:=ho;have ta0:=qeD q m cap;have ta1:=qdR q m cap;have ta2:=qf7 q m cap;have ta4:=qfH q m cap;have ta5:=qhO q m cap;go_enter func109,ntmps109
 go_wp2_with (first
  |(go_at_call 162;refine cA.mono ?_;rintro e w6 ⟨v6,rfl,h6,hB6⟩;obtain⟨h61,h62,a6,n6,c6,rfl⟩:=h6))
 go_ret;exact⟨_,rfl,⟨h61,h62,_,_,_,rfl⟩,hB6⟩
theorem qya {a b:Array Value}(h:Value.agg a=.agg b):a=b:=by injection h
theorem q1E:∀(k:Nat) (W:World) (F:Nat→Prop) (a:Array Value) (d:DataW Unit),(∀j,F j→j<W.heap.size)→qyi k W F (.agg a) d→(qaU k d).length≤999999999→Calls prog 73 #[.agg a] W (WrS (qaU k d) W)
 |0,_,_,_,_,_,h,_=>h.elim
 |k+1,W,F,a,d,hF,h,hl=>by
  unfold qyi at h;split at h
  ·obtain rfl:=qya h;exact q0V W 0 246 246 (by decide) rfl
  ·rename_i b
   obtain rfl:=qya h;cases b
   ·exact q0V W 1 244 244 (by decide) rfl
   exact q0V W 2 245 245 (by decide) rfl
  ·obtain⟨h,h1,h2⟩:=h;obtain rfl:=qya h;exact q6d W _ h1 h2
  ·rename_i l
   obtain rfl:=qya h;exact(q44 W l (by have:(qaj 3 l.length++l).length≤999999999:=hl;rw[List.length_append] at this;omega)).1
  ·rename_i l
   obtain rfl:=qya h;exact(q44 W l (by have:(qaj 2 l.length++l).length≤999999999:=hl;rw[List.length_append] at this;omega)).2
  ·obtain⟨u,xs,h,hr,ha⟩:=h;obtain rfl:=qya h;exact q5a k W F u xs _ (qaU k) hF hr ha hl (fun V a d h1 h2 h3=>q1E k V F a d h1 h2 h3)
  ·obtain⟨kv,u,xs,h,hq,hr,ha⟩:=h;obtain rfl:=qya h;exact q6h k W F kv u xs _ (qaU k) hF hq hr ha hl (fun V a d h1 h2 h3=>q1E k V F a d h1 h2 h3)
  exact h.elim
theorem q2m:∀(k:Nat) (W:World) (F:Nat→Prop) (a:Array Value) (d:DataW Unit),(∀j,F j→j<W.heap.size)→qyi k W F (.agg a) d→(qcV k d).length≤999999999→Calls prog 74 #[.agg a] W (WrS (qcV k d) W)
 |0,_,_,_,_,_,h,_=>h.elim
 |k+1,W,F,a,d,hF,h,hl=>by
  unfold qyi at h;split at h
  ·obtain rfl:=qya h;exact q1b W 0 192 192 (by decide) rfl
  ·rename_i b
   obtain rfl:=qya h;cases b
   ·exact q1b W 1 194 194 (by decide) rfl
   exact q1b W 2 195 195 (by decide) rfl
  ·obtain⟨h,h1,h2⟩:=h;obtain rfl:=qya h;exact q6u W _ h1 h2
  ·rename_i l
   obtain rfl:=qya h;exact q5f W l (by have:(qa2 l.length++l).length≤999999999:=hl;rw[List.length_append] at this;omega)
  ·rename_i l
   obtain rfl:=qya h;exact q3G W l (by have:(qb8 l.length++l).length≤999999999:=hl;rw[List.length_append] at this;omega)
  ·obtain⟨u,xs,h,hr,ha⟩:=h;obtain rfl:=qya h;exact q5i k W F u xs _ (qcV k) hF hr ha hl (fun V a d h1 h2 h3=>q2m k V F a d h1 h2 h3)
  ·obtain⟨kv,u,xs,h,hq,hr,ha⟩:=h;obtain rfl:=qya h;exact q6j k W F kv u xs _ (qcV k) hF hq hr ha hl (fun V a d h1 h2 h3=>q2m k V F a d h1 h2 h3)
  exact h.elim
theorem q1L:∀(k:Nat) (W:World) (F:Nat→Prop) (a:Array Value) (d:DataW Unit),(∀j,F j→j<W.heap.size)→qyi k W F (.agg a) d→(qza k d).length≤149999999→Calls prog 72 #[.agg a] W (JwS (qkn k d) (qza k d) W)
 |0,_,_,_,_,_,h,_=>h.elim
 |k+1,W,F,a,d,hF,h,hl=>by
  unfold qyi at h;split at h
  ·obtain rfl:=qya h;exact q0P W 0 _ (.inl ⟨rfl,rfl⟩)
  ·rename_i b
   obtain rfl:=qya h;cases b
   ·exact q0P W 1 _ (.inr (.inl ⟨rfl,rfl⟩))
   exact q0P W 2 _ (.inr (.inr ⟨rfl,rfl⟩))
  ·obtain⟨h,h1,h2⟩:=h;obtain rfl:=qya h;exact q5Q W _ h1 h2
  ·rename_i l
   obtain rfl:=qya h;refine q5c W l ?_;have h1:(qT l).length≤149999999:=hl;have h3:=qeE qB l fun b _=>q5G b;unfold qT at h1;rw[List.length_append,List.length_append] at h1;omega
  ·rename_i l
   obtain rfl:=qya h;exact q4f W l _
  ·obtain⟨u,xs,h,hr,ha⟩:=h;obtain rfl:=qya h;exact q4K k W F u xs _ (qza k) (qkn k) hF hr ha hl (fun V a d h1 h2 h3=>q1L k V F a d h1 h2 h3)
  ·obtain⟨kv,u,xs,h,hq,hr,ha⟩:=h;obtain rfl:=qya h;exact q6p k W F kv u xs _ (qza k) (qkn k) hF hq hr ha hl (fun V a d h1 h2 h3=>q1L k V F a d h1 h2 h3)
  exact h.elim
end
end Go.Proofs.YtllcbnfmihfaaaaGreatDoor
