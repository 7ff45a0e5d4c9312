import Derived.Test.YtllcbnfmihfaaaaGreatDoorTq22
import Derived.Test.YtllcbnfmihfaaaaGreatDoorTq25
set_option maxRecDepth 100000
set_option maxHeartbeats 8000000
namespace Go.Proofs.YtllcbnfmihfaaaaGreatDoor
open Go.Proofs.Tryz
variable {acc bs:List UInt8}{d fm l lim:Int}{b i p q:Nat}{V V' W W':World}{v v':Value}{A:Array Value}
section
open Go.RowKit Go.Lib
theorem q5I {f:Int×Int}(hl:Lm bs l lim)(hi:InR bs lim i)(hb:bs.length≤200000000)(h:qgA bs lim 4 i 0=.error f):HxC bs fm d l i 0 f:=fun V=>by have k:=q3R V bs fm d l lim i hl hi hb;rw[h] at k;exact k
theorem q5B {x:Nat}(hl:Lm bs l lim)(hi:InR bs lim i)(hb:bs.length≤200000000)(h:qgA bs lim 4 i 0=.ok (x,q)):HxC bs fm d l i x (0,0):=fun V=>by have k:=q3R V bs fm d l lim i hl hi hb;rw[h] at k;exact k
theorem bdc (hl:Lm bs l lim)(hi:InR bs lim (p+1)):BdC bs fm d l p (9,(p:Int)):=fun V=>by have h:=qyv V bs fm d l p 9;rw[q1n hl hi] at h;exact h
theorem q5e (W:World)(bs:List UInt8)(fm d l lim:Int)(i:Nat)(hl:Lm bs l lim)(hi:InR bs lim i)(hb:bs.length≤200000000):Calls prog 230 #[.agg (inA bs fm d l),.int .i64 i] W fun e W'=>q17 W (qgy bs lim i) e W'∧Below W.heap.size W W':=by
 have un:=q5m W bs fm d l i hi.1 hb;have hne:∀z:Int,¬z=0→(z==0)=false:=fun z h=>by simpa using h
 unfold qgy
 cases h1:qgA bs lim 4 i 0 with
 |error f=>exact un _ 0 0 f (by decide) (by decide) (by decide) (by decide) (.inl ⟨q5I hl hi hb h1,hne _ (qio bs lim 4 i 0 f.1 f.2 h1),rfl⟩)
 |ok r =>
  obtain⟨x,q⟩:=r;simp only[];obtain⟨hq,hqi,hx4⟩:=qzu 4 i 0 x q hi h1;have hx5:x<65536:=by simpa using hx4
  have cX:=q5B (fm:=fm) (d:=d) hl hi hb h1;by_cases hlo:qvc x=true
  ·rw[if_pos hlo];unfold qvc at hlo;have h2:=of_decide_eq_true hlo;rw[show(q:Int)-1=(i:Int)+3 by omega];exact un _ x 0 _ (by omega) (by omega) (by decide) (by decide) (.inr (.inr (.inr (.inl ⟨cX,by omega,by omega,fun V=>bdc hl (p:=i+3) (by rw[hq] at hqi;exact hqi) V,rfl⟩))))
  rw[if_neg hlo];have hlo2:¬(56320≤x∧x≤57343):=fun h=>hlo (decide_eq_true h);by_cases hhi:qwL x=true
  ·rw[if_pos hhi];unfold qwL at hhi;have h2:=of_decide_eq_true hhi;subst hq;have cW:=fun V=>qzD V bs fm d l lim (i+4) [92,117] (by decide) hl hqi hb
   cases hw:qaT bs lim [92,117] (i+4) with
   |error f =>
    rw[hw] at cW;exact un _ x 0 f (by omega) (by omega) (by decide) (by decide) (.inr (.inl ⟨cX,by omega,by omega,cW,hne _ (qbW bs lim [92,117] (i+4) f.1 f.2 hw),rfl⟩))
   |ok r =>
    obtain⟨u,q2⟩:=r;simp only[];obtain⟨hq2,hqi2⟩:=qyJ [92,117] (i+4) q2 hqi hw;have hq3:q2=i+6:=by simpa using hq2
    subst hq3;rw[hw] at cW
    cases h3:qgA bs lim 4 (i+6) 0 with
    |error f=>exact un _ x 0 f (by omega) (by omega) (by decide) (by decide) (.inr (.inr (.inl ⟨cX,by omega,by omega,cW,q5I hl hqi2 hb h3,hne _ (qio bs lim 4 (i+6) 0 f.1 f.2 h3),rfl⟩)))
    |ok r =>
     obtain⟨y,q4⟩:=r;simp only[];obtain⟨hq4,hqi4,hy4⟩:=qzu 4 (i+6) 0 y q4 hqi2 h3;have hy5:y<65536:=by simpa using hy4
     have cY:=q5B (fm:=fm) (d:=d) hl hqi2 hb h3;subst hq4;by_cases hyl:qvc y=true
     ·rw[if_pos hyl];unfold qvc at hyl;have h4:=of_decide_eq_true hyl;rw[show 65536+((x:Int)-55296)*1024+((y:Int)-56320)=65536+((x:Int)-55296)*1024+(y:Int)-56320 by omega];exact un _ x y _ (by omega) (by omega) (by omega) (by omega) (.inr (.inr (.inr (.inr (.inr (.inr ⟨cX,by omega,by omega,cW,cY,by omega,by omega,fun V=>q4b V _ (by omega) (by omega) (by omega),rfl,rfl⟩))))))
     rw[if_neg hyl,show((i+6+4:Nat):Int)-1=(i:Int)+9 by omega];have hyl2:¬(56320≤y∧y≤57343):=fun h=>hyl (decide_eq_true h);exact un _ x y _ (by omega) (by omega) (by omega) (by omega) (.inr (.inr (.inr (.inr (.inl ⟨cX,by omega,by omega,cW,cY,by omega,fun V=>bdc hl (p:=i+9) hqi4 V,rfl⟩)))))
  rw[if_neg hhi];have hhi2:¬(55296≤x∧x≤56319):=fun h=>hhi (decide_eq_true h);subst hq;exact un _ x 0 _ (by omega) (by omega) (by decide) (by decide) (.inr (.inr (.inr (.inr (.inr (.inl ⟨cX,by omega,fun V=>q4b V _ (by omega) (by omega) (by omega),rfl,rfl⟩))))))
theorem q69 (r:Int)(h0:0≤r)(h1:r≤127):runeCells r=[.int .u8 r]:=by unfold runeCells;rw[encodeRuneZ_one h0 h1];rfl
theorem q0g (W:World)(bs:List UInt8)(fm d l:Int)(i:Nat)(x:Int×Int)(h2:qr0 bs l i 9=x)(hw:qyb bs l i=false∨(qyb bs l i=true∧∃c,bs[i]? = some c∧∀x,x∈[34,92,47,98,102,110,114,116,117]→¬c.toNat=x)):Calls prog 204 #[.agg (inA bs fm d l),.int .i64 i] W fun e W'=>q17 W (.error x) e W'∧Below W.heap.size W W':=by
 have cB1:=q11 fm d h2;have HX:=q00 W bs fm d l;clear h2;unfold inA;rcases hw with h1|⟨h1,c,hc,hn⟩
 all_goals
  have cH1:=qyz fm d h1;clear h1
  try
   have hix:=qxH bs i c hc;have hib:=ltL hc;simp only[List.mem_cons,List.not_mem_nil,or_false,forall_eq_or_imp,forall_eq] at hn;have t34:=nec (c:=c) 34 (by omega);have t92:=nec (c:=c) 92 (by omega);have t47:=nec (c:=c) 47 (by omega);have t98:=nec (c:=c) 98 (by omega);have t102:=nec (c:=c) 102 (by omega);have t110:=nec (c:=c) 110 (by omega);have t114:=nec (c:=c) 114 (by omega);have t116:=nec (c:=c) 116 (by omega);have t117:=nec (c:=c) 117 (by omega);clear hc hn
  go_enter func204,ntmps204
  go_wp2_with (first
   |(go_at_call 113;refine ck4 (cH1 _) HX.out.next (fun _ h=>h.box) ?_;clear cH1;intro w2 HX2 c0 c1 c2 c3)
   |(go_at_call 71;refine ck4 (cB1 _) HX2.out.next (fun _ h=>h.box) ?_;clear cB1 c0 c1 c2 c3;intro w3 HX3 c0 c1 c2 c3)
   |(refine stF 6 _ rfl rfl (W.heap.size+1) x rfl rfl ?_ ?_;exact HX3.out.flt))
  exact qzl results204 (qxK HX3.out bwR _) (.slice none 0 0) (.int .i64 0) rfl rfl rfl rfl ⟨rfl,(qxK HX3.out bwR _).2⟩
theorem qyo (W:World)(bs:List UInt8)(fm d l:Int)(i:Nat)(c:UInt8)(hc:bs[i]? = some c)(h1:qyb bs l i=true)(hb:bs.length≤200000000)(v:Nat)(r:Int)(hv:c.toNat=v)(hw:(v,r)∈([(34,34),(92,92),(47,47),(98,8),(102,12),(110,10),(114,13),(116,9)]:List (Nat×Int))):Calls prog 204 #[.agg (inA bs fm d l),.int .i64 i] W fun e W'=>q17 W (.ok (r,i+1)) e W'∧Below W.heap.size W W':=by
 have hix:=q49 hc hv;have hib:=ltL hc;have cH1:=qyz fm d h1;have HX:=q00 W bs fm d l;clear h1 hc hv;unfold inA;simp only[List.mem_cons,Prod.mk.injEq,List.not_mem_nil,or_false] at hw;rcases hw with h|h|h|h|h|h|h|h
 all_goals
  obtain⟨rfl,rfl⟩:=h
 let r:Int:=34;rotate_left
 let r:Int:=92;rotate_left
 let r:Int:=47;rotate_left
 let r:Int:=8;rotate_left
 let r:Int:=12;rotate_left
 let r:Int:=10;rotate_left
 let r:Int:=13;rotate_left
 let r:Int:=9;rotate_left
 all_goals
  have hr:runeCells r=[.int .u8 r]:=q69 r (of_decide_eq_true rfl) (of_decide_eq_true rfl);go_enter func204,ntmps204
  go_wp2_with (first
   |(go_at_call 113;refine ck4 (cH1 _) HX.out.next (fun _ h=>h.box) ?_;clear cH1;intro w2 HX2 c0 c1 c2 c3)
   |(refine stF 6 _ rfl rfl (W.heap.size+1) (0,0) rfl rfl ?_ ?_;exact(HX2.out.next (bwO _)).flt))
  have hO:=(qzn w2 r [.int .u8 r] 1 rfl hr).1;exact qzl results204 (qxK (HX2.out.next (bwO _)) bwR _) (.slice (some ⟨w2.heap.size,0,none⟩) 1 1) (.int .i64 ((i:Int)+1)) rfl rfl rfl rfl ⟨⟨_,rfl,q2f (q1i hO HX2.out.below.size) _ _ (q2h hO (ltA HX2.out.flt))⟩,(qxK (HX2.out.next (bwO _)) bwR _).2⟩
theorem q5b (W:World)(bs:List UInt8)(fm d l lim:Int)(i:Nat)(hb:bs.length≤200000000)(c:UInt8)(hc:bs[i]? = some c)(h1:qyb bs l i=true)(hv:c.toNat=117)(hl:Lm bs l lim)(hi:InR bs lim (i+1)):Calls prog 204 #[.agg (inA bs fm d l),.int .i64 i] W fun e W'=>q17 W (qgy bs lim (i+1)) e W'∧Below W.heap.size W W':=by
 have hix:=q49 hc hv;have hib:=ltL hc;have cH1:=qyz fm d h1;have HX:=q00 W bs fm d l;have cU:∀V,Calls prog 230 #[.agg #[.string ⟨bs.toArray⟩,.int .i64 fm,.int .i64 d,.int .i64 l],.int .i64 ((i:Int)+1)] V fun e W'=>q17 V (qgy bs lim (i+1)) e W'∧Below V.heap.size V W':=fun V=>q5e V bs fm d l lim (i+1) hl hi hb;clear h1 hc hv hl hi;generalize qgy bs lim (i+1)=R at *;unfold inA;go_enter func204,ntmps204
 go_wp2_with (first
  |(go_at_call 113;refine ck4 (cH1 _) HX.out.next (fun _ h=>h.box) ?_;clear cH1;intro w2 HX2 c0 c1 c2 c3))
 refine(cU _).mono ?_;clear cU c0 c1 c2 c3;rintro e w3 ⟨he,hB3⟩;have HX3:=qaa (HX2.out.next hB3)
 cases R with
 |error f =>
  obtain rfl:=he
  go_wp2_with (first
   |(refine stF 6 68 rfl rfl (W.heap.size+1) f rfl rfl ?_ ?_;exact HX3.out.flt))
  exact qzl results204 (qxK HX3.out bwR _) (.slice none 0 0) (.int .i64 0) rfl rfl rfl rfl ⟨rfl,(qxK HX3.out bwR _).2⟩
 |ok r =>
  obtain⟨v,rfl,hO⟩:=he;obtain⟨va,vn,vc,rfl⟩:=hO.2.2;have HO:=qaa hO;clear hO
  go_wp2_with (first
   |(refine stF 6 68 rfl rfl (W.heap.size+1) (0,0) rfl rfl ?_ ?_;exact HX3.out.flt))
  exact qzl results204 (qxK HX3.out bwR _) (.slice va vn vc) (.int .i64 r.2) rfl rfl rfl rfl ⟨⟨_,rfl,q2f (q1i HO.out HX2.out.below.size) _ _ (q2h HO.out (ltA HX2.out.flt))⟩,(qxK HX3.out bwR _).2⟩
theorem q3s (W:World)(bs:List UInt8)(fm d l lim:Int)(i:Nat)(hl:Lm bs l lim)(hi:InR bs lim i)(hb:bs.length≤200000000):Calls prog 204 #[.agg (inA bs fm d l),.int .i64 i] W fun e W'=>q17 W (qnj bs lim i) e W'∧Below W.heap.size W W':=by
 unfold qnj
 cases hc:bs[i]? with
 |none=>exact q0g W bs fm d l i _ (qxY hi.1 hc 9) (.inl (qxS hc))
 |some c =>
  simp only[];by_cases hp:(i:Int)=lim
  ·rw[if_pos hp];exact q0g W bs fm d l i _ (qxW hl hc hp 9) (.inl (qyg hl hc hp))
  rw[if_neg hp];have h1:=qxO hl hi hc hp;by_cases h34:c.toNat=34
  ·rw[if_pos h34];exact qyo W bs fm d l i c hc h1 hb 34 34 h34 (by decide)
  rw[if_neg h34];by_cases h92:c.toNat=92
  ·rw[if_pos h92];exact qyo W bs fm d l i c hc h1 hb 92 92 h92 (by decide)
  rw[if_neg h92];by_cases h47:c.toNat=47
  ·rw[if_pos h47];exact qyo W bs fm d l i c hc h1 hb 47 47 h47 (by decide)
  rw[if_neg h47];by_cases h98:c.toNat=98
  ·rw[if_pos h98];exact qyo W bs fm d l i c hc h1 hb 98 8 h98 (by decide)
  rw[if_neg h98];by_cases h102:c.toNat=102
  ·rw[if_pos h102];exact qyo W bs fm d l i c hc h1 hb 102 12 h102 (by decide)
  rw[if_neg h102];by_cases h110:c.toNat=110
  ·rw[if_pos h110];exact qyo W bs fm d l i c hc h1 hb 110 10 h110 (by decide)
  rw[if_neg h110];by_cases h114:c.toNat=114
  ·rw[if_pos h114];exact qyo W bs fm d l i c hc h1 hb 114 13 h114 (by decide)
  rw[if_neg h114];by_cases h116:c.toNat=116
  ·rw[if_pos h116];exact qyo W bs fm d l i c hc h1 hb 116 9 h116 (by decide)
  rw[if_neg h116];by_cases h117:c.toNat=117
  ·rw[if_pos h117];exact q5b W bs fm d l lim i hb c hc h1 h117 hl (qxJ hi hc hp)
  rw[if_neg h117];exact q0g W bs fm d l i _ (qxT hl hi hc hp 9) (.inr ⟨h1,c,hc,by simp[*]⟩)
theorem q2Y (h:Own W b v bs)(hB:Below W.heap.size W W'):Own W' b v bs:=by
 obtain⟨⟨h1,h2⟩,h3,h4⟩:=h;refine⟨⟨h1,?_⟩,Nat.le_trans h3 hB.size,h4⟩;rcases h2 with h2|⟨g,cap,cur,a,b,c,d⟩
 ·exact .inl h2
 exact .inr ⟨g,cap,cur,a,b,(hB.block _ (ltA c)).trans c,d⟩
structure q2O (W:World)(A:Array Value)(v:Value)(acc:List UInt8)(V:World):Prop where
 box:V.heap[W.heap.size]? = some (.cells A 143)
 flt:V.heap[W.heap.size+1]? = some (.cells (qqp (0,0)) 95)
 own:Own V (W.heap.size+2) v acc
 below:Below W.heap.size W V
theorem q2O.next (h:q2O W A v acc V)(hb:Below V.heap.size V V'):q2O W A v acc V' :=
 ⟨(hb.block _ (ltA h.box)).trans h.box,(hb.block _ (ltA h.flt)).trans h.flt,q2Y h.own hb,h.below.trans (hb.mono h.below.size)⟩
theorem q2O.drew (h:q2O W A v acc V):q2O W A v acc V.drew:=⟨h.box,h.flt,h.own,h.below.drew⟩
theorem q2O.grow {acc':List UInt8}(h:q2O W A v acc V)(hg:V.grownBy V' v.ownBlock)(ho:Own V' (W.heap.size+2) v' acc'):q2O W A v' acc' V':=by
 have hn:∀k,k<W.heap.size+2→some k≠v.ownBlock:=fun k hk e=>by have:=qbA h.own.1 e.symm;omega
 exact⟨(hg.block _ (ltA h.box) (hn _ (by omega))).trans h.box,(hg.block _ (ltA h.flt) (hn _ (by omega))).trans h.flt,ho,
  h.below.trans ⟨hg.os,hg.tape,hg.output,hg.size,fun i hi=>hg.block i (Nat.lt_of_lt_of_le hi h.below.size) (hn _ (by omega))⟩⟩
theorem qxR (V:World)(f:Int×Int):Below V.heap.size V ((V.alloc (.cells (qqp (0,0)) 95)).setRow V.heap.size (qqp f)):=qah bwA (Nat.le_refl _) _
theorem q2O.fin (h:q2O W A v acc V)(g:Int×Int):(V.setRow (W.heap.size+1) (qqp g)).heap[W.heap.size+1]? = some (.cells (qqp g) 95)∧Below W.heap.size W (V.setRow (W.heap.size+1) (qqp g)) :=
 ⟨setRow_heap _ _ _ _ _ _ h.flt,qah h.below (by omega) _⟩
theorem q6y (W:World)(A:Array Value):q2O W A (.slice none 0 0) [] ((W.alloc (.cells A 143)).alloc (.cells (qqp (0,0)) 95)) :=
 ⟨(qzj W A).box,(qzj W A).flt,⟨World.ownsRow_nil _ _ _ _,by simp,none,0,0,rfl⟩,(qzj W A).below⟩
def q2a (r:Except (Int×Int) (List UInt8×Nat))(e:Ending):Prop:=match r with
 |.ok (x,q)=>e=.returned (.tuple #[.string ⟨x.toArray⟩,.int .i64 q,.agg (qqp (0,0))])
 |.error f=>e=.returned (.tuple #[.string ⟨#[]⟩,.int .i64 0,.agg (qqp f)])
theorem q2J {k:Nat}(hl:Lm bs l lim)(hk:k<bs.length)(hkl:(k:Int)<lim):min (bs.length:Int) l=min (bs.length:Int) lim:=by
 have h1:=hl k hk;have h2:=hl (bs.length-1) (by omega);by_cases h3:l<bs.length
 ·have h4:=hl l.toNat (by omega);have h5:=hl (l.toNat-1) (by omega);omega
 omega
theorem q1P (bs:List UInt8)(p j:Nat):(⟨bs.toArray⟩:ByteArray).extract p (p+j)=⟨(qye bs p j).toArray⟩:=by
 apply ByteArray.ext;apply Array.toList_inj.1;rw[Lib.extract_data];simp[qye]
theorem q35 {l:List UInt8}(h:Own W b v l)(hl:0<l.length):∃g cap,v=.slice (some ⟨g,0,none⟩) l.length cap:=by
 rcases h.1.2 with ⟨_,h0⟩|⟨g,cap,cur,e,_⟩
 ·omega
 exact⟨g,cap,e⟩
theorem q3k {g cap:Nat}{l:List UInt8}(h:Own W b (.slice (some ⟨g,0,none⟩) l.length cap) l):∀j u,(l.map qav)[j]? = some u→W.cell? ((⟨g,0,none⟩:Addr).add j)=some u:=h.1.cells (g:=g) rfl
theorem q5S {base:Nat}{l:List UInt8}(h:Own W base v bs)(hown:W'.ownsRow base 5 1 v' (bs.length+l.length) (bs.map qav++l.map qav))(hg:W.grownBy W' v.ownBlock):Own W' base v' (bs++l):=by
 refine⟨by rw[List.length_append,List.map_append];exact hown,Nat.le_trans h.2.1 hg.size,?_⟩;rcases hown.2 with ⟨e,_⟩|⟨g,cap,cur,e,_⟩
 ·exact⟨none,0,0,e⟩
 exact⟨_,_,_,e⟩
theorem q4R (l:List UInt8):∀u∈l.map qav,u.oneCell'=true:=fun u hu=>by
 obtain⟨b,_,rfl⟩:=List.mem_map.1 hu;rfl
theorem q43 (r:Int):0<(qcD r).length:=by
 unfold qcD;rw[List.length_map];exact(encodeRuneZ_length r).1
theorem q21 {r:Int}(hi:InR bs lim p)(h:qnj bs lim p=.ok (r,q)):InR bs lim q∧p<q:=by
 unfold qnj at h
 cases hc:bs[p]? with
 |none=>rw[hc] at h;cases h
 |some c =>
  rw[hc] at h;simp only[] at h;by_cases hp:(p:Int)=lim
  ·rw[if_pos hp] at h;cases h
  rw[if_neg hp] at h;have hn:=qxJ hi hc hp
  repeat' split at h
  all_goals first
   |(cases h;done)
   |(injection h with h;injection h with _ h;subst h;exact⟨hn,by omega⟩)
   |skip
  rename_i hu
  unfold qgy at h
  cases h1:qgA bs lim 4 (p+1) 0 with
  |error f=>rw[h1] at h;cases h
  |ok x =>
   obtain⟨x,q1⟩:=x;obtain⟨e1,i1,_⟩:=qzu 4 (p+1) 0 x q1 hn h1;rw[h1] at h;simp only[] at h;split at h
   ·cases h
   split at h
   ·cases h2:qaT bs lim [92,117] q1 with
    |error f=>rw[h2] at h;cases h
    |ok x2 =>
     obtain⟨u,q2⟩:=x2;obtain⟨e2,i2⟩:=qyJ [92,117] q1 q2 i1 h2;have e2':q2=q1+2:=e2;rw[h2] at h;simp only[] at h
     cases h3:qgA bs lim 4 q2 0 with
     |error f=>rw[h3] at h;cases h
     |ok y =>
      obtain⟨y,q3⟩:=y;obtain⟨e3,i3,_⟩:=qzu 4 q2 0 y q3 i2 h3;rw[h3] at h;simp only[] at h;split at h
      ·injection h with h;injection h with _ h;subst h;exact⟨i3,by omega⟩
      cases h
   injection h with h;injection h with _ h;subst h;exact⟨i1,by omega⟩
theorem q4O (r:Int):(qcD r).length≤4:=by
 unfold qcD;rw[List.length_map];exact(encodeRuneZ_length r).2
theorem qyA (W:World)(bs:List UInt8)(fm d l lim:Int)(i:Nat)(hl:Lm bs l lim)(hi:InR bs lim (i+1))(hb:bs.length≤200000000):Calls prog 171 #[.agg (inA bs fm d l),.int .i64 i] W fun e W'=>q2a (qfe bs lim (bs.length+1-(i+1)) (i+1) [] 0) e∧Below W.heap.size W W':=by
 obtain⟨i0,hi0,hz0,hz1,hz2⟩:=info_parts Tryz.infoU8;obtain⟨R,HR⟩:∃R,Hid (qfe bs lim (bs.length+1-(i+1)) (i+1) [] 0=R):=⟨_,show _=_ from rfl⟩
 rw[HR.out];have hil:=hi.1;have hsz:=qym bs;have HL:=qaa hl;have HI:=qaa hi;have cH:=qzv bs fm d l;have cB:=qzy bs fm d l;have cE:∀V (k:Nat),InR bs lim k→Calls prog 204 #[.agg #[.string ⟨bs.toArray⟩,.int .i64 fm,.int .i64 d,.int .i64 l],.int .i64 k] V fun e W'=>q17 V (qnj bs lim k) e W'∧Below V.heap.size V W':=fun V k hk=>q3s V bs fm d l lim k hl hk hb;clear hl hi;unfold inA;go_enter func171,ntmps171;go_wp2
 go_loopg [1,7] (bs.length+1-(i+1)) (fun g z y wr=>∃(k:Nat) (acc:List UInt8) (a:Option Addr) (n c:Nat),z=.int .i64 k∧y=.slice a n c∧Hid (bs.length+1≤k+g)∧Hid (acc.length≤4*k)∧Hid (q2O W (inA bs fm d l) (.slice a n c) acc wr)∧Hid (InR bs lim k)∧Hid (qfe bs lim g k acc acc.length=R))
 case atStart=>exact⟨i+1,[],none,0,0,rfl,rfl,by show _≤_;omega,Nat.zero_le _,q6y _ _,HI,HR⟩
 case round =>
  clear HR HI;obtain⟨k,acc,a,n,c,rfl,rfl,hg,ha,HX,HI,HR⟩:=hrel;have hkl:=HI.out.1;obtain⟨g,rfl⟩:∃g,gk=g+1:=⟨gk-1,by have:=hg.out;omega⟩
  obtain⟨c0,c1,c2,c3⟩:=qyf HX.out.box;have cH1:=fun V=>cH V k;have cB1:=fun V=>cB V k 9;have hr:=HR.out;rw[qfe] at hr
  cases hc:bs[k]? with
  |none =>
   rw[hc] at hr;simp only[] at hr;rw[qxS hc] at cH1;rw[qxY hkl hc] at cB1;have HE:=qaa hr.symm;clear hr hc cB cH cE HR hg ha
   go_wp2_with (first
    |(go_at_call 113;refine ck4 (cH1 _) HX.out.next (fun _ h=>h.box) ?_;clear cH1 c0 c1 c2 c3;intro w2 HX2 c0 c1 c2 c3)
    |(go_at_call 71;refine ck4 (cB1 _) HX2.out.next (fun _ h=>h.box) ?_;clear cB1 c0 c1 c2 c3;intro w3 HX3 c0 c1 c2 c3)
    |(refine stF 6 29 rfl rfl (W.heap.size+1) (9,(k:Int)) rfl rfl ?_ ?_;exact HX3.out.flt))
   have hf:=HX3.out.fin (9,(k:Int));refine qzl results171 hf (.string ⟨#[]⟩) (.int .i64 0) rfl rfl rfl rfl ⟨?_,hf.2⟩;rw[HE.out];rfl
  |some ch =>
   rw[hc] at hr;simp only[] at hr;have hix:=fun V=>qxH bs k ch hc V;have hkb:=ltL hc;by_cases hp:(k:Int)=lim
   ·rw[if_pos hp] at hr;rw[qyg HL.out hc hp] at cH1;rw[qxW HL.out hc hp] at cB1;have HE:=qaa hr.symm;clear hr hc cB cH cE HR hg ha hp hix
    go_wp2_with (first
     |(go_at_call 113;refine ck4 (cH1 _) HX.out.next (fun _ h=>h.box) ?_;clear cH1 c0 c1 c2 c3;intro w2 HX2 c0 c1 c2 c3)
     |(go_at_call 71;refine ck4 (cB1 _) HX2.out.next (fun _ h=>h.box) ?_;clear cB1 c0 c1 c2 c3;intro w3 HX3 c0 c1 c2 c3)
     |(refine stF 6 29 rfl rfl (W.heap.size+1) (8,(k:Int)) rfl rfl ?_ ?_;exact HX3.out.flt))
    have hf:=HX3.out.fin (8,(k:Int));refine qzl results171 hf (.string ⟨#[]⟩) (.int .i64 0) rfl rfl rfl rfl ⟨?_,hf.2⟩;rw[HE.out];rfl
   rw[if_neg hp] at hr;rw[qxO HL.out HI.out hc hp] at cH1;rw[qxT HL.out HI.out hc hp] at cB1;by_cases h32:ch.toNat<32
   ·rw[if_neg (by omega),if_neg (by omega),if_pos h32] at hr;have HE:=qaa hr.symm;have g32:(ch.toNat:Int)<32:=by omega
    clear hr hc cB cH cE HR hg ha hp h32
    go_wp2_with (first
     |(go_at_call 113;refine ck4 (cH1 _) HX.out.next (fun _ h=>h.box) ?_;clear cH1 c0 c1 c2 c3;intro w2 HX2 c0 c1 c2 c3)
     |(go_at_call 71;refine ck4 (cB1 _) HX2.out.next (fun _ h=>h.box) ?_;clear cB1 c0 c1 c2 c3;intro w3 HX3 c0 c1 c2 c3)
     |(refine stF 6 29 rfl rfl (W.heap.size+1) (9,(k:Int)) rfl rfl ?_ ?_;exact HX3.out.flt))
    have hf:=HX3.out.fin (9,(k:Int));refine qzl results171 hf (.string ⟨#[]⟩) (.int .i64 0) rfl rfl rfl rfl ⟨?_,hf.2⟩;rw[HE.out];rfl
   have g32:decide ((ch.toNat:Int)<32)=false:=by simp;omega
   have q32:32≤(ch.toNat:Int):=by omega
   clear cB1;by_cases h34:ch.toNat=34
   ·rw[if_pos ⟨h34,trivial⟩] at hr;have HE:=qaa hr.symm;have t34:((ch.toNat:Int)==34)=true:=by rw[h34];rfl
    have hcv:∀V,q2O W (inA bs fm d l) (.slice a n c) acc V→(convert 28 9 (.slice a n c)).run prog V=.ok (.string ⟨acc.toArray⟩) V:=fun V h=>qkU h.own;clear hr hc cB cH cE HR hg ha hp h32 h34
    go_wp2_with (first
     |(go_at_call 113;refine ck4 (cH1 _) HX.out.next (fun _ h=>h.box) ?_;clear cH1 c0 c1 c2 c3;intro w2 HX2 c0 c1 c2 c3;have hcv2:=hcv _ HX2.out;clear hcv)
     |(refine stF 6 73 rfl rfl (W.heap.size+1) (0,0) rfl rfl ?_ ?_;exact HX2.out.flt))
    have hf:=HX2.out.fin (0,0);refine qzl results171 hf (.string ⟨acc.toArray⟩) (.int .i64 ((k:Int)+1)) rfl rfl rfl rfl ⟨?_,hf.2⟩;rw[HE.out];rfl
   rw[if_neg (fun h=>h34 h.1)] at hr;have t34:((ch.toNat:Int)==34)=false:=by simp;omega
   by_cases h92:ch.toNat=92
   ·rw[if_pos ⟨h92,trivial⟩] at hr;have t92:((ch.toNat:Int)==92)=true:=by rw[h92];rfl
    have cE1:=fun V=>cE V (k+1) (qxJ HI.out hc hp);rw[show((k+1:Nat):Int)=(k:Int)+1 by omega] at cE1;have hep:=fun r q h=>q21 (r:=r) (q:=q) (qxJ HI.out hc hp) h;have hbad:=fun f=>qqz bs lim (k+1) f
    cases hes:qnj bs lim (k+1) with
    |error f =>
     rw[hes] at hr cE1;have HE:Hid (R=.error f):=hr.symm;have hne:(f.1==0)=false:=by have:=qqz bs lim (k+1) f.1 f.2 hes;simpa using this
     clear hr hc cB cH cE HR hg ha hp h32 h34 h92 hep hbad hes
     go_wp2_with (first
      |(go_at_call 113;refine ck4 (cH1 _) HX.out.next (fun _ h=>h.box) ?_;clear cH1 c0 c1 c2 c3;intro w2 HX2 c0 c1 c2 c3)
      |(go_at_call 204;refine(cE1 _).mono ?_;clear cE1 c0 c1 c2 c3;rintro e w3 ⟨he,hB3⟩;obtain rfl:=he;have HX3:=qaa (HX2.out.next hB3))
      |(refine stF 10 83 rfl rfl (w3.heap.size) (f) rfl rfl ?_ ?_;exact qac w3 _;refine nmd ?_;intro V4 EV4;have HX4:=qaa (EV4▸HX3.out.next (qxR _ _));have HM:Hid (V4.heap[w3.heap.size]? = some (.cells (qqp (f)) 95)):=EV4▸setRow_heap _ _ _ _ _ _ (qac _ _);have HLT:=qaa (ltA HX3.out.flt);clear EV4;generalize w3.heap.size=M at *;have u0:=qab HM.out 0;unfold qqp at u0))
     refine rgn (S:=fun Z=>Z.heap[M]? = some (.cells (qqp f) 95)) (HM.out) (by kernel_rfl) ?_;intro hS;refine tkk 1 4 (.string ⟨#[]⟩) (by kernel_rfl) iQ3 hS ?_;refine tkk 2 5 (.int .i64 0) (by kernel_rfl) iQ3 hS ?_;refine tk 0 87 (.agg (qqp f)) rfl (by kernel_rfl) iQ3 (fun Z hZ=>yF 10 hZ rfl rfl) hS ?_;refine rdH 3 rfl (by kernel_rfl) (fun K hK => ?_);rw[if_pos (by kernel_rfl)];refine wp_store_row 95 _ _ rfl (W.heap.size+1) (qqp f) rfl rfl 95 (qqp (0,0)) HX4.out.drew.flt (qyj _) rfl (qy7 _) ?_;refine hK.out _ _ (sx (by have:=HLT.out;omega) hS) (fun _ => ?_);clear hK;refine wpAnyH_done (by kernel_rfl) ?_ _;go_simp;clear u0;go_wp2;have hf:=HX4.out.drew.fin (f);refine qzl results171 hf (.string ⟨#[]⟩) (.int .i64 0) rfl rfl rfl rfl ⟨?_,hf.2⟩;rw[HE.out];rfl
    |ok x =>
     obtain⟨r,q⟩:=x;rw[hes] at hr cE1;have HN:Hid (qfe bs lim g q (acc++qcD r) (acc++qcD r).length=R):=hr;obtain⟨hqi,hkq⟩:=hep r q hes;have HQI:=qaa hqi;have HKQ:=qaa hkq;have hr4:=q4O r;have hr0:=q43 r;have hal:acc.length≤800000000:=by have:=ha.out;omega
     clear hr hc cB cH cE HR hp h32 h34 h92 hep hbad hes hqi hkq
     go_wp2_with (first
      |(go_at_call 113;refine ck4 (cH1 _) HX.out.next (fun _ h=>h.box) ?_;clear cH1 c0 c1 c2 c3;intro w2 HX2 c0 c1 c2 c3)
      |(go_at_call 204;refine(cE1 _).mono ?_;clear cE1 c0 c1 c2 c3;rintro e w3 ⟨he,hB3⟩;obtain⟨v,rfl,hO⟩:=he;obtain⟨vg,vc,rfl⟩:=q35 hO hr0;have HO3:=qaa hO;clear hO;have HX3:=qaa (HX2.out.next hB3))
      |(refine stF 10 83 rfl rfl (w3.heap.size) (0,0) rfl rfl ?_ ?_;exact qac w3 _;refine nmd ?_;intro V4 EV4;have HX4:=qaa (EV4▸HX3.out.next (qxR _ _));have HM:Hid (V4.heap[w3.heap.size]? = some (.cells (qqp (0,0)) 95)):=EV4▸setRow_heap _ _ _ _ _ _ (qac _ _);have HO4:=qaa (EV4▸q2Y HO3.out (qxR _ _));have HLT:=qaa (ltA HX3.out.flt);clear EV4;generalize w3.heap.size=M at *;have u0:=qab HM.out 0;unfold qqp at u0)
      |(at_builtin;(refine wpList_append_own _ rfl _ _ 28 rfl (W.heap.size+2) 5 i0 (.int .u8 0) 1 1 underlying28 hi0 hz0 hz1 hz2 rfl (by decide) _ _ _ rfl HX4.out.own.1 ⟨vg,0,none⟩ (qcD r).length vc ((qcD r).map qav) rfl (by simp) (q3k HO4.out) (q4R _) (by unfold maxLen;omega) (by omega) HX4.out.own.2.1 ?_);intro v' w5 hown' hgrow5 hnil5;clear hnil5;have HO5:=q5S HX4.out.own hown' hgrow5;obtain⟨a5,n5,c5,rfl⟩:=HO5.2.2;have HX5:=qaa (HX4.out.grow hgrow5 HO5);clear hown' hgrow5 HO5))
     go_roundg g
     case measure=>omega
     case rel=>exact⟨q,acc++qcD r,a5,n5,c5,rfl,rfl,by show _≤_;have:=hg.out;have:=HKQ.out;omega,by show _≤_;rw[List.length_append];have:=ha.out;have:=HKQ.out;omega,HX5,HQI,HN⟩
   rw[if_neg (fun h=>h92 h.1)] at hr;have t92:((ch.toNat:Int)==92)=false:=by simp;omega
   have hkl2:(k:Int)<lim:=by have:=HI.out.2;omega
   have hmn:=q2J HL.out hkb hkl2;obtain⟨nn,hnn⟩:∃nn:Nat,(nn:Int)=min (bs.length:Int) lim:=⟨(min (bs.length:Int) lim).toNat,by omega⟩
   have hchar:=q4W HL.out hnn HI.out hc hp h34 h92 h32 acc (g+1) hg.out;rw[HR.out] at hchar;rw[←hnn] at hmn;have cG:=fun V=>qyT V bs k nn ch hc hb (by omega);have hnl:nn≤bs.length:=by omega
   have cB2:=cB;obtain⟨j,b,hbf⟩:∃j b,qgB bs nn k ch=(j,b):=⟨_,_,rfl⟩
   rw[hbf] at hchar cG;cases b
   ·simp only[] at hchar;obtain⟨hji,hje⟩:=hchar;have HE:=qaa hje;have cB1:=fun V=>cB V (k+j) 9;rw[show((k+j:Nat):Int)=(k:Int)+(j:Int) by omega] at cB1;have hjl:=hji.1;generalize qr0 bs l (k+j) 9=xx at *;clear hr hc cB cB2 cH cE HR hp h32 h34 h92 hnn hbf hji hje hkl2 ha;have cG2:∀V,Calls prog 68 #[.string ⟨bs.toArray⟩,.int .i64 k,.int .i64 nn] V fun e W'=>e=.returned (.tuple #[.int .i64 j,.bool false])∧W'=V:=cG;clear cG
    go_wp2_with (first
     |(go_at_call 113;refine ck4 (cH1 _) HX.out.next (fun _ h=>h.box) ?_;clear cH1 c0 c1 c2 c3;intro w2 HX2 c0 c1 c2 c3)
     |(go_at_call 68;refine(cG2 _).mono ?_;clear cG2;rintro e w3 ⟨rfl,hw3⟩;subst hw3)
     |(go_at_call 71;refine ck4 (cB1 _) HX2.out.next (fun _ h=>h.box) ?_;clear cB1 c0 c1 c2 c3;intro w4 HX4 c0 c1 c2 c3)
     |(refine stF 6 54 rfl rfl (W.heap.size+1) (xx) rfl rfl ?_ ?_;exact HX4.out.flt))
    have hf:=HX4.out.fin (xx);refine qzl results171 hf (.string ⟨#[]⟩) (.int .i64 0) rfl rfl rfl rfl ⟨?_,hf.2⟩;rw[HE.out];rfl
   simp only[] at hchar;obtain⟨hj1,hji,hjg,hje⟩:=hchar;have HN:=qaa hje.symm;have HJI:=qaa hji;have hjl:=hji.1;have hcl:=q0i (bs:=bs) (p:=k) (k:=j) hjl;have HEX:Hid ((⟨bs.toArray⟩:ByteArray).extract (k:Int).toNat ((k:Int)+(j:Int)).toNat=⟨(qye bs k j).toArray⟩):=by
    show _=_;rw[show(k:Int).toNat=k by omega,show((k:Int)+(j:Int)).toNat=k+j by omega];exact q1P bs k j
   have hcs:=qym (qye bs k j);have hal:acc.length≤800000000:=by have:=ha.out;omega
   clear hr hc cB cB2 cH cE HR hp h32 h34 h92 hnn hbf hji hje hkl2;have cG2:∀V,Calls prog 68 #[.string ⟨bs.toArray⟩,.int .i64 k,.int .i64 nn] V fun e W'=>e=.returned (.tuple #[.int .i64 j,.bool true])∧W'=V:=cG;clear cG
   go_wp2_with (first
    |(go_at_call 113;refine ck4 (cH1 _) HX.out.next (fun _ h=>h.box) ?_;clear cH1 c0 c1 c2 c3;intro w2 HX2 c0 c1 c2 c3)
    |(go_at_call 68;refine(cG2 _).mono ?_;clear cG2;rintro e w3 ⟨rfl,hw3⟩;subst hw3)
    |(at_builtin;(refine wpList_append_own_string _ rfl _ _ 28 9 rfl (W.heap.size+2) 5 i0 underlying28 underlying9 hi0 hz0 hz1 hz2 _ _ _ rfl HX2.out.own.1 ((⟨bs.toArray⟩:ByteArray).extract (k:Int).toNat ((k:Int)+(j:Int)).toNat) rfl (by rw[HEX.out,hcs,hcl];unfold maxLen;omega) (by rw[HEX.out,hcs,hcl];omega) HX2.out.own.2.1 ?_);intro v' w5 hown' hgrow5 hnil5;clear hnil5;rw[HEX.out] at hown';obtain⟨HO5,_⟩:=qaL HX2.out.own hown' hgrow5;obtain⟨a5,n5,c5,rfl⟩:=HO5.2.2;have HX5:=qaa (HX2.out.grow hgrow5 HO5);clear hown' hgrow5 HO5))
   go_roundg (g+1-j)
   case measure=>omega
   case rel=>exact⟨k+j,acc++qye bs k j,a5,n5,c5,by go_num,rfl,by show _≤_;have:=hg.out;omega,by show _≤_;rw[List.length_append,hcl];have:=ha.out;omega,HX5,HJI,HN⟩
end
end Go.Proofs.YtllcbnfmihfaaaaGreatDoor
