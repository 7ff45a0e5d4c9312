import Derived.Test.YtllcbnfmihfaaaaGreatDoorUq49
set_option maxRecDepth 100000
set_option maxHeartbeats 8000000
namespace Go.Proofs.YtllcbnfmihfaaaaGreatDoor
open Go.Proofs.Tryz
section
open Go.RowKit Go.Lib
structure qdP (V:World)(B b0:Nat)(cs gv:Value)(la:Option Addr)(lcap M:Nat)(xs:List Value):Prop where
 wd:qnj B b0 cs gv (.slice la (4*M) lcap) (4*M) xs V
 all:∀(i:Nat) (v:Value),xs[i]? = some v→qfx V v (.int .u8 (mkN i)) 0
 dis:∀(i:Nat) (v:Value) (g:Nat),xs[i]? = some v→v.ownBlock=some g→B<g∧g<V.heap.size∧(Value.slice la (4*M) lcap).ownBlock≠some g
 grp:qiR xs
 big:∀(i:Nat) (a:Option Addr) (n c:Nat),xs[i]? = some (Value.slice a n c)→n≤1000000000
theorem qdP.len {V:World}{B b0:Nat}{cs gv:Value}{la:Option Addr}{lcap M:Nat}{xs:List Value}(h:qdP V B b0 cs gv la lcap M xs):xs.length=4*M:=by have:=h.wd.row.1;omega
theorem qdP.rd {V:World}{B b0:Nat}{cs gv:Value}{la:Option Addr}{lcap M:Nat}{xs:List Value}(h:qdP V B b0 cs gv la lcap M xs):qiG V B la (4*M) lcap xs mkN:=by
 refine⟨qaa h.wd.wd 2,h.len,fun i v hv => ?_,h.all⟩
 rcases h.wd.row.2 with ⟨h1,h2⟩|⟨g,cap,cur,e,h1,h2,h3,h4,h5,h6⟩
 ·have h7:=ltL hv
  have:=h.len
  omega
 ·cases e
  refine⟨g,rfl,?_⟩
  rw[qaa h2 i]
  have h7:=ltL hv
  have h8:=h.len
  have e5:(cur.toList.take (4*M*1))[i]? = some v:=by rw[h6];exact hv
  rw[List.getElem?_take_of_lt (by omega)] at e5
  simpa using e5
theorem qdP.hdis {V:World}{B b0:Nat}{cs gv:Value}{la:Option Addr}{lcap M:Nat}{xs:List Value}(h:qdP V B b0 cs gv la lcap M xs):∀(i:Nat) (v:Value) (g:Nat),xs[i]? = some v→v.ownBlock=some g→g≠B∧∀gr,la=some ⟨gr,0,none⟩→g≠gr:=fun i v g h1 h2=>by
 obtain⟨k1,k2,k3⟩:=h.dis i v g h1 h2
 refine⟨by omega,fun gr e e2=>k3 ?_⟩
 subst e
 subst e2
 rfl
theorem qoc (V:World)(B b0:Nat)(cs gv:Value)(h:V.heap[B]? = some (.cells #[cs,gv,.slice none 0 0] 71)):qdP V B b0 cs gv none 0 0 [] :=
 ⟨⟨h,World.ownsRow_nil _ _ _ _,fun g e=>by cases e⟩,fun i v h=>by simp at h,fun i v g h=>by simp at h,fun i i' v v' g h=>by simp at h,fun i a n c h=>by simp at h⟩
theorem qdP.next {V V':World}{B b0:Nat}{cs gv:Value}{la:Option Addr}{lcap M:Nat}{xs:List Value}(h:qdP V B b0 cs gv la lcap M xs)(hb:Below V.heap.size V V'):qdP V' B b0 cs gv la lcap M xs :=
 ⟨⟨(hb.block B (ltA h.wd.wd)).trans h.wd.wd,qd7 h.wd.row (fun j e=>hb.block j (qb9 h.wd.row e)),h.wd.ne⟩,fun i v hv=>(h.all i v hv).keep (fun g e=>hb.block g (h.dis i v g hv e).2.1),fun i v g h1 h2=>⟨(h.dis i v g h1 h2).1,by have:=(h.dis i v g h1 h2).2.1;have:=hb.size;omega,(h.dis i v g h1 h2).2.2⟩,h.grp,h.big⟩
theorem qdP.more {W V:World}{B b0 base S:Nat}{cs gv lv' v0 v1 v2 v3:Value}{la:Option Addr}{lcap M:Nat}{xs:List Value}(h:qdP W B b0 cs gv la lcap M xs)(hk:qfU W B b0 base S (.int .u8 (mkN (4*M))) cs gv (Value.slice la (4*M) lcap).ownBlock [v0,v1,v2,v3] lv' (4*M+4) (xs++[v0,v1,v2,v3]) V)(hbase:∀(i:Nat) (v:Value) (g:Nat),xs[i]? = some v→v.ownBlock=some g→g<base)(hbg:∀v,v∈[v0,v1,v2,v3]→∀a n c,v=.slice a n c→n≤1000000000):∃la' lcap',lv'=.slice la' (4*(M+1)) lcap'∧qdP V B b0 cs gv la' lcap' (M+1) (xs++[v0,v1,v2,v3]):=by
 have hl:=h.len
 obtain⟨la',lcap',rfl⟩:=qbQ hk.wd.row
 have e4:4*M+4=4*(M+1):=by omega
 have hk':=hk
 rw[e4] at hk'
 refine⟨la',lcap',by rw[e4],?_⟩
 have hnew:∀(i:Nat) (v:Value),¬i<4*M→(xs++[v0,v1,v2,v3])[i]? = some v→v∈[v0,v1,v2,v3]∧i / 4=M:=fun i v hi hv=>by
  rw[List.getElem?_append_right (by omega)] at hv
  have h5:=ltL hv
  simp at h5
  exact⟨List.mem_of_getElem? hv,by omega⟩
 have hold:∀(i:Nat) (v:Value),i<4*M→(xs++[v0,v1,v2,v3])[i]? = some v→xs[i]? = some v:=fun i v hi hv=>by
  rwa [List.getElem?_append_left (by omega)] at hv
 have hkeep:∀(i:Nat) (v:Value) (g:Nat),xs[i]? = some v→v.ownBlock=some g→V.heap[g]? = W.heap[g]?:=fun i v g h1 h2=>by
  have h3:=h.dis i v g h1 h2
  refine hk.frm.block g h3.2.1 (fun hx => ?_)
  rcases hx with hx|hx|hx
  ·omega
  ·exact h3.2.2 hx.symm
  ·have:=hbase i v g h1 h2;omega
 refine⟨hk'.wd,fun i v hv => ?_,fun i v g hv hg => ?_,fun i i' v v' g hv hv' hg hg' => ?_,fun i a n c hv => ?_⟩
 ·by_cases hi:i<4*M
  ·exact(h.all i v (hold i v hi hv)).keep (fun g e=>hkeep i v g (hold i v hi hv) e)
  ·obtain⟨hm,hd⟩:=hnew i v hi hv
   have e:mkN i=mkN (4*M):=by unfold mkN;rw[hd];congr 2;omega
   rw[e]
   obtain⟨a,n,cap,h1,h2⟩:=(hk.all v hm).1
   exact⟨a,n,cap,h1,h2.imp_right fun ⟨g,cur,k1,_,k2,k3,k4⟩=>⟨g,cur,k1,Nat.zero_le _,k2,k3,k4⟩⟩
 ·by_cases hi:i<4*M
  ·have h3:=h.dis i v g (hold i v hi hv) hg
   have h4:=hbase i v g (hold i v hi hv) hg
   refine⟨h3.1,by have:=hk.frm.size;omega,fun e => ?_⟩
   have e':(Value.slice la' (4*M+4) lcap').ownBlock=some g:=by rw[←e];cases la'<;>rfl
   rcases hk.rb g e' with h5|h5
   ·exact h3.2.2 h5.symm
   ·have:=hk.sz;omega
  ·obtain⟨hm,hd⟩:=hnew i v hi hv
   have h3:=(hk.all v hm).2 g hg
   refine⟨by have:=hk.sz;omega,by have:=hk.sz;omega,fun e => ?_⟩
   have e':(Value.slice la' (4*M+4) lcap').ownBlock=some g:=by rw[←e];cases la'<;>rfl
   rcases hk.rb g e' with h5|h5
   ·have:=hk.lb g h5.symm;omega
   ·omega
 ·by_cases hi:i<4*M
  ·by_cases hi':i'<4*M
   ·exact h.grp i i' v v' g (hold i v hi hv) (hold i' v' hi' hv') hg hg'
   ·have h4:=hbase i v g (hold i v hi hv) hg
    obtain⟨hm,hd⟩:=hnew i' v' hi' hv'
    have:=(hk.all v' hm).2 g hg'
    omega
  ·obtain⟨hm,hd⟩:=hnew i v hi hv
   by_cases hi':i'<4*M
   ·have h4:=hbase i' v' g (hold i' v' hi' hv') hg'
    have:=(hk.all v hm).2 g hg
    omega
   ·obtain⟨_,hd'⟩:=hnew i' v' hi' hv'
    omega
 ·by_cases hi:i<4*M
  ·exact h.big i a n c (hold i _ hi hv)
  ·exact hbg _ (hnew i _ hi hv).1 a n c rfl
theorem qmj {fm:Int}{s l:List UInt8}(h:qkk fm s=.ok l):l.length≤s.length:=by
 unfold qkk at h
 split at h
 ·split at h
  ·cases h
  ·split at h
   ·injection h with h
    subst h
    simp
    omega
   ·cases h
 ·cases h
theorem qlH {w:World}{g:Nat}{s:List UInt8}(h:w.heap[g]? = some (.cells (qbL (s++rm8)) 5))(hs:s.length≤200000000):qaD w (some ⟨g,0,none⟩) s:=by
 refine⟨fun i hi=>⟨g,0,rfl,(ltA h),?_⟩,by unfold maxLen;omega⟩
 rw[Nat.zero_add,qaa h i,qc4,List.getElem?_append_left hi,List.getElem?_eq_getElem hi]
 rfl
theorem qio {W w5 w6:World}{B b0 base:Nat}{cs gv:Value}{la:Option Addr}{lcap M:Nat}{xs:List Value}{v0:Value}{ln S:Nat}{lv':Value}{a0 a1 a2 a3:Option Addr}{c0 c1 c2 c3:Nat}(hls:qdP W B b0 cs gv la lcap M xs)(hbase:W.heap.size≤base)(e0:v0=.slice a0 ln c0)(hln:ln≤200000000)(hB5:Below W.heap.size W w5)(hk:qfU w5 B b0 base S (.int .u8 (mkN (4*M))) cs gv (Value.slice la (4*M) lcap).ownBlock [v0,.slice a1 (ln+1) c1,.slice a2 (ln+2) c2,.slice a3 (ln+3) c3] lv' (4*M+4) (xs++[v0,.slice a1 (ln+1) c1,.slice a2 (ln+2) c2,.slice a3 (ln+3) c3]) w6):Frm W w6 (fun j=>j=B∨some j=(Value.slice la (4*M) lcap).ownBlock)∧∃la' lcap' xs',qdP w6 B b0 cs gv la' lcap' (M+1) xs':=by
 obtain⟨la',lcap',_,hls'⟩:=(hls.next hB5).more hk (fun i v g h1 h2=>by have:=(hls.dis i v g h1 h2).2.1;omega) (fun v hv a n c e=>by
  simp at hv
  rcases hv with rfl|rfl|rfl|rfl
  ·rw[e0] at e;cases e;omega
  ·cases e;omega
  ·cases e;omega
  ·cases e;omega)
 exact⟨⟨hk.frm.os.trans hB5.os,hk.frm.tape.trans hB5.tape,hk.frm.output.trans hB5.output,Nat.le_trans hB5.size hk.frm.size,fun j hj hx=>(hk.frm.block j (by have:=hB5.size;omega) (fun h=>by
  rcases h with h|h|h
  ·exact hx (.inl h)
  ·exact hx (.inr h)
  ·omega)).trans (hB5.block j hj)⟩,_,_,_,hls'⟩
theorem qh8 {W V V':World}{g:Nat}(hg:W.heap.size<g)(h1:Below W.heap.size W V)(h2:But g V V'):Below W.heap.size W V' :=
 h1.trans ⟨h2.os,h2.tape,h2.output,h2.size,fun j hj=>h2.block j (by have:=h1.size;omega) (by omega)⟩
theorem qn4 {w3 w4 w5:World}{base g:Nat}{v:Value}{l:List UInt8}(h:Own w3 base v l)(h1:Below w3.heap.size w3 w4)(h2:But g w4 w5)(hg:g<base):Own w5 base v l :=
 ⟨qd7 h.1 (fun j e=>by
  have h3:=qb9 h.1 e
  have h4:=qaQ h.1 e
  have h5:=h1.size
  exact(h2.block j (by omega) (by omega)).trans (h1.block j h3)),by have:=h1.size;have:=h2.size;have:=h.2.1;omega,h.2.2⟩
theorem qho (W:World)(B b0:Nat)(cs gv:Value)(la:Option Addr)(lcap M:Nat)(xs:List Value)(oa:Array Value)(fm:Int)(s:List UInt8)(ho1:oa[1]? = some (.int .i64 fm))(ho5:oa[5]? = some (.string ⟨s.toArray⟩))(hsl:s.length≤200000000)(h:qdP W B b0 cs gv la lcap M xs)(hM:M≤100000000)(hb0:b0≤W.heap.size)(ht:qbX W):Calls prog 55 #[.pointer (some ⟨B,0,none⟩),.agg oa] W fun e W'=>e=.returned (.bool true)∧Frm W W' (fun j=>j=B∨some j=(Value.slice la (4*M) lcap).ownBlock)∧∃la' lcap' xs',qdP W' B b0 cs gv la' lcap' (M+1) xs':=by
 obtain⟨W1,hW1⟩:∃W1,W1=W.alloc (.cells oa 74):=⟨_,rfl⟩
 have HD:Hid (W1=W.alloc (.cells oa 74)):=hW1
 have HB1:Hid (Below W.heap.size W W1):=by rw[hW1];exact bwA
 have HBX:Hid (W1.heap[W.heap.size]? = some (.cells oa 74)):=by rw[hW1];exact qab _ _
 have HW1:Hid (W.heap.size<W1.heap.size):=ltA HBX.out
 have HO1:Hid (oa[1]? = some (.int .i64 fm)):=ho1
 have HO5:Hid (oa[5]? = some (.string ⟨s.toArray⟩)):=ho5
 have k5:W1.cell? ⟨W.heap.size,5,none⟩=some (.string ⟨s.toArray⟩):=(qaa HBX.out 5).trans HO5.out
 have cL:=fun V=>qfj V s hsl
 have HLS:Hid (qdP W B b0 cs gv la lcap M xs):=h
 have HT:Hid (qbX W):=ht
 have HN:Hid (s.length≤200000000∧M≤100000000∧b0≤W.heap.size):=⟨hsl,hM,hb0⟩
 have HFB:Hid (∀en pl,qe4 (thO fm s 16 s.length)=.error (en,pl)→en≠0):=qja fm s 16 s.length (by decide)
 clear h ht ho1 ho5 hW1 hsl hM hb0
 go_enter func55,ntmps55
 go_wp2_with (first
  |(go_at_call 91;refine(cL _).mono ?_;clear cL k5;rintro e w2 ⟨rfl,hg2,hB2⟩;have HG2:Hid (w2.heap[W1.heap.size]? = some (.cells (qbL (s++rm8)) 5)):=hg2;have HB2:Hid (Below W.heap.size W w2):=HB1.out.trans (hB2.mono HB1.out.size);have HX2:Hid (w2.heap[W.heap.size]? = some (.cells oa 74)):=(hB2.block _ (ltA HBX.out)).trans HBX.out;clear hg2 hB2;have k1:w2.cell? ⟨W.heap.size,1,none⟩=some (.int .i64 fm):=(qaa HX2.out 1).trans HO1.out)
  |(refine qfq HD.out ?_)
  |(go_at_call 94;refine Hid.out ?_))
 unfold Hid
 have cU:=ql8 w2 fm (some ⟨W1.heap.size,0,none⟩) s (s.length+8) (qlH HG2.out HN.out.1) (by omega) (HT.out.below HB2.out) HFB.out
 have cR:=fun V=>qjY V fm s
 obtain⟨R,HR⟩:∃R,Hid (qkk fm s=R):=⟨_,show _=_ from rfl⟩
 rw[HR.out] at cU cR
 refine cU.mono ?_
 clear cU k1
 rintro e w3 ⟨hB3,hU⟩
 have HB3:Hid (Below W.heap.size W w3):=HB2.out.trans (hB3.mono HB2.out.size)
 have HS23:Hid (w2.heap.size≤w3.heap.size):=hB3.size
 have HL2:Hid (W1.heap.size<w2.heap.size):=ltA HG2.out
 have HG3:Hid (w3.heap[W1.heap.size]? = some (.cells (qbL (s++rm8)) 5)):=(hB3.block _ HL2.out).trans HG2.out
 have HX3:Hid (w3.heap[W.heap.size]? = some (.cells oa 74)):=(hB3.block _ (ltA HX2.out)).trans HX2.out
 have k1:w3.cell? ⟨W.heap.size,1,none⟩=some (.int .i64 fm):=(qaa HX3.out 1).trans HO1.out
 have k5:w3.cell? ⟨W.heap.size,5,none⟩=some (.string ⟨s.toArray⟩):=(qaa HX3.out 5).trans HO5.out
 clear hB3
 cases R with
 |error en =>
  obtain rfl:=hU
  have cR1:∀V,Calls prog 95 #[.int .i64 fm,.string ⟨s.toArray⟩] V fun e W'=>e=.returned (.tuple #[.string ⟨#[]⟩,.int .i64 en])∧Below V.heap.size V W':=cR
  clear cR
  have hee:((en:Int)==en)=true:=beq_self_eq_true _
  go_wp2_with (first
   |(go_at_call 95;refine(cR1 _).mono ?_;clear cR1 k1 k5;rintro e w4 ⟨rfl,hB4⟩;have HB4:Hid (Below W.heap.size W w4):=HB3.out.trans (hB4.mono HB3.out.size);have HG4:Hid (w4.heap[W1.heap.size]? = some (.cells (qbL (s++rm8)) 5)):=(hB4.block _ (ltA HG3.out)).trans HG3.out;have HX4:Hid (w4.heap[W.heap.size]? = some (.cells oa 74)):=(hB4.block _ (ltA HX3.out)).trans HX3.out;have HB34:Hid (Below w3.heap.size w3 w4):=hB4;clear hB4;have k5:w4.cell? ⟨W.heap.size,5,none⟩=some (.string ⟨s.toArray⟩):=(qaa HX4.out 5).trans HO5.out)
   |(go_at_call 92;refine(qcb w4 s W1.heap.size HG4.out HN.out.1).mono ?_;clear k5;rintro e w5 ⟨rfl,hB5⟩;have HB5:Hid (Below W.heap.size W w5):=qh8 HW1.out HB4.out hB5;have HS5:Hid (w2.heap.size≤w5.heap.size):=(by show _≤_;have h1:=HS23.out;have h2:=HB34.out.size;have h3:=hB5.size;omega);have HBU:Hid (But W1.heap.size w4 w5):=hB5;clear hB5)
   |(go_at_call 93;refine(qgZ w5 B b0 w2.heap.size cs gv la (4*M) lcap xs en (HLS.out.next HB5.out).wd (by have h1:=ltA HLS.out.wd.wd;have h2:=HW1.out;have h3:=HL2.out;omega) (fun g e=>by have h1:=qb9 HLS.out.wd.row e;have h2:=HW1.out;have h3:=HL2.out;omega) (by have h1:=HB5.out.size;have h2:=HN.out;omega) (by have:=HS5.out;omega) (by have h2:=HN.out;omega)).mono ?_;rintro e w6 ⟨rfl,S,lv',a1,c1,a2,c2,a3,c3,hk⟩;have HK:=qac hk;clear hk))
  go_ret
  exact⟨rfl,qio HLS.out (by have:=HW1.out;have:=HL2.out;omega) rfl (by omega) HB5.out HK.out⟩
 |ok l =>
  obtain⟨v,rfl,hO⟩:=hU
  have HO:Hid (Own w3 w2.heap.size v l):=hO
  have HLL:Hid (l.length≤200000000):=Nat.le_trans (qmj HR.out) HN.out.1
  rcases hO.1.2 with ⟨e2,e1⟩|⟨g,cap,cur,e1,_⟩
  ·obtain rfl:l=[]:=List.length_eq_zero_iff.1 e1
   subst e2
   clear hO
   have cR1:∀V,Calls prog 95 #[.int .i64 fm,.string ⟨s.toArray⟩] V fun e W'=>e=.returned (.tuple #[.string ⟨#[]⟩,.int .i64 0])∧Below V.heap.size V W':=cR
   clear cR
   have hee:((0:Int)==0)=true:=beq_self_eq_true _
   go_wp2_with (first
    |(go_at_call 95;refine(cR1 _).mono ?_;clear cR1 k1 k5;rintro e w4 ⟨rfl,hB4⟩;have HB4:Hid (Below W.heap.size W w4):=HB3.out.trans (hB4.mono HB3.out.size);have HG4:Hid (w4.heap[W1.heap.size]? = some (.cells (qbL (s++rm8)) 5)):=(hB4.block _ (ltA HG3.out)).trans HG3.out;have HX4:Hid (w4.heap[W.heap.size]? = some (.cells oa 74)):=(hB4.block _ (ltA HX3.out)).trans HX3.out;have HB34:Hid (Below w3.heap.size w3 w4):=hB4;clear hB4;have k5:w4.cell? ⟨W.heap.size,5,none⟩=some (.string ⟨s.toArray⟩):=(qaa HX4.out 5).trans HO5.out)
    |(go_at_call 92;refine(qcb w4 s W1.heap.size HG4.out HN.out.1).mono ?_;clear k5;rintro e w5 ⟨rfl,hB5⟩;have HB5:Hid (Below W.heap.size W w5):=qh8 HW1.out HB4.out hB5;have HS5:Hid (w2.heap.size≤w5.heap.size):=(by show _≤_;have h1:=HS23.out;have h2:=HB34.out.size;have h3:=hB5.size;omega);have HBU:Hid (But W1.heap.size w4 w5):=hB5;clear hB5)
    |(go_at_call 93;refine(qgZ w5 B b0 w2.heap.size cs gv la (4*M) lcap xs 0 (HLS.out.next HB5.out).wd (by have h1:=ltA HLS.out.wd.wd;have h2:=HW1.out;have h3:=HL2.out;omega) (fun g e=>by have h1:=qb9 HLS.out.wd.row e;have h2:=HW1.out;have h3:=HL2.out;omega) (by have h1:=HB5.out.size;have h2:=HN.out;omega) (by have:=HS5.out;omega) (by have h2:=HN.out;omega)).mono ?_;rintro e w6 ⟨rfl,S,lv',a1,c1,a2,c2,a3,c3,hk⟩;have HK:=qac hk;clear hk))
   go_ret
   exact⟨rfl,qio HLS.out (by have:=HW1.out;have:=HL2.out;omega) rfl (by omega) HB5.out HK.out⟩
  ·subst e1
   clear hO
   have cR1:∀V,Calls prog 95 #[.int .i64 fm,.string ⟨s.toArray⟩] V fun e W'=>e=.returned (.tuple #[.string ⟨l.toArray⟩,.int .i64 0])∧Below V.heap.size V W':=cR
   clear cR
   have hee:((0:Int)==0)=true:=beq_self_eq_true _
   go_wp2_with (first
    |(go_at_call 95;refine(cR1 _).mono ?_;clear cR1 k1 k5;rintro e w4 ⟨rfl,hB4⟩;have HB4:Hid (Below W.heap.size W w4):=HB3.out.trans (hB4.mono HB3.out.size);have HG4:Hid (w4.heap[W1.heap.size]? = some (.cells (qbL (s++rm8)) 5)):=(hB4.block _ (ltA HG3.out)).trans HG3.out;have HX4:Hid (w4.heap[W.heap.size]? = some (.cells oa 74)):=(hB4.block _ (ltA HX3.out)).trans HX3.out;have HB34:Hid (Below w3.heap.size w3 w4):=hB4;clear hB4;have k5:w4.cell? ⟨W.heap.size,5,none⟩=some (.string ⟨s.toArray⟩):=(qaa HX4.out 5).trans HO5.out)
    |(go_at_call 92;refine(qcb w4 s W1.heap.size HG4.out HN.out.1).mono ?_;clear k5;rintro e w5 ⟨rfl,hB5⟩;have HB5:Hid (Below W.heap.size W w5):=qh8 HW1.out HB4.out hB5;have HS5:Hid (w2.heap.size≤w5.heap.size):=(by show _≤_;have h1:=HS23.out;have h2:=HB34.out.size;have h3:=hB5.size;omega);have HBU:Hid (But W1.heap.size w4 w5):=hB5;clear hB5)
    |(go_at_call 93;refine(qjR w5 B b0 w2.heap.size cs gv la (4*M) lcap xs g cap l 0 (HLS.out.next HB5.out).wd (by have h1:=ltA HLS.out.wd.wd;have h2:=HW1.out;have h3:=HL2.out;omega) (fun g e=>by have h1:=qb9 HLS.out.wd.row e;have h2:=HW1.out;have h3:=HL2.out;omega) (by have h1:=HB5.out.size;have h2:=HN.out;omega) (by have:=HS5.out;omega) (by have h2:=HN.out;omega) (qn4 HO.out HB34.out HBU.out HL2.out) HLL.out rfl).mono ?_;rintro e w6 ⟨rfl,S,lv',a1,c1,a2,c2,a3,c3,hk⟩;have HK:=qac hk;clear hk))
   go_ret
   exact⟨rfl,qio HLS.out (by have:=HW1.out;have:=HL2.out;omega) rfl HLL.out HB5.out HK.out⟩
theorem qg3 (W:World)(B b0:Nat)(cs gv:Value)(la:Option Addr)(lcap M:Nat)(xs:List Value)(o:OpD)(s:List UInt8)(hs:o.s=⟨s.toArray⟩)(hsl:s.length≤200000000)(h:qdP W B b0 cs gv la lcap M xs)(hM:M≤100000000)(hb0:b0≤W.heap.size)(ht:qbX W):Calls prog 55 #[.pointer (some ⟨B,0,none⟩),.agg o.arr] W fun e W'=>e=.returned (.bool true)∧Frm W W' (fun j=>j=B∨some j=(Value.slice la (4*M) lcap).ownBlock)∧∃la' lcap' xs',qdP W' B b0 cs gv la' lcap' (M+1) xs' :=
 qho W B b0 cs gv la lcap M xs o.arr o.a s rfl (by rw[←hs];rfl) hsl h hM hb0 ht
def qn6 (kind:Int):Prop:=∀(o:OpD),o.kind=kind→o.s.size≤200000000→∀(W:World) (B b0:Nat) (cs gv:Value) (la:Option Addr) (lcap M:Nat) (xs:List Value),qdP W B b0 cs gv la lcap M xs→M≤100000000→b0≤W.heap.size→qbX W →
 Calls prog 35 #[.pointer (some ⟨B,0,none⟩),.agg o.arr] W fun e W'=>e=.returned (.bool true)∧Frm W W' (fun j=>j=B∨some j=(Value.slice la (4*M) lcap).ownBlock)∧∃la' lcap' M' xs',M'≤M+1∧qdP W' B b0 cs gv la' lcap' M' xs'
theorem qnR (s:ByteArray):s=⟨s.data.toList.toArray⟩:=by simp
theorem qlp:qn6 5:=by
 intro o hk hs W B b0 cs gv la lcap M xs h hM hb0 ht
 have ok:o.arr[0]? = some (.int .i64 5):=by rw[←hk];rfl
 have hB1:Below W.heap.size W (W.alloc (.cells o.arr 74)):=bwA
 have HB1:Hid (Below W.heap.size W (W.alloc (.cells o.arr 74))):=hB1
 have cU:=qg3 (W.alloc (.cells o.arr 74)) B b0 cs gv la lcap M xs o o.s.data.toList (qnR _) (by rw[Array.length_toList];exact hs) (h.next hB1) hM (Nat.le_trans hb0 hB1.size) (ht.below hB1)
 have HOP:Hid ((W.alloc (.cells o.arr 74)).heap[W.heap.size]? = some (.cells o.arr 74)):=qab _ _
 have HIO:Hid ((prog.info? 74).map (·.size)=some o.arr.size):=by show _=_;rw[show o.arr.size=7 from rfl];kernel_rfl
 clear h hM hb0 ht hB1 hk hs
 go_enter func35,ntmps35
 go_wp2_with (first
  |(refine wpList_load_row rfl 74 _ rfl _ rfl _ _ _ _ HOP.out underlying74 rfl HIO.out ?_)
  |(go_at_call 55;refine cU.mono ?_;clear cU;rintro e w2 ⟨rfl,hF2,hl2⟩;have HF2:=qac hF2;have HL2:=qac hl2;clear hF2 hl2))
 go_ret
 refine⟨rfl,(qkv HB1.out).next HF2.out,?_⟩
 obtain⟨la',lcap',xs',h⟩:=HL2.out
 exact⟨la',lcap',M+1,xs',Nat.le_refl _,h⟩
structure qd5 (w W:World)(cs:Value)(k:Nat):Prop where
 below:Below w.heap.size w W
 ls:∃la lcap M xs,M≤k∧qdP W w.heap.size w.heap.size cs (.slice none 0 0) la lcap M xs
theorem qd5.step {w W W':World}{cs:Value}{k:Nat}(h:qd5 w W cs k)(hb:Below W.heap.size W W'):qd5 w W' cs k:=by
 obtain⟨la,lcap,M,xs,h1,h2⟩:=h.ls
 exact⟨h.below.trans (hb.mono h.below.size),la,lcap,M,xs,h1,h2.next hb⟩
theorem qd5.more {w W:World}{cs:Value}{k k':Nat}(h:qd5 w W cs k)(hk:k≤k'):qd5 w W cs k':=by
 obtain⟨la,lcap,M,xs,h1,h2⟩:=h.ls
 exact⟨h.below,la,lcap,M,xs,by omega,h2⟩
theorem qhq {w W W':World}{X:Nat→Prop}(h:Below w.heap.size w W)(hf:Frm W W' X)(hx:∀j,X j→w.heap.size≤j):Below w.heap.size w W' :=
 h.trans ⟨hf.os,hf.tape,hf.output,hf.size,fun j hj=>hf.block j (by have:=h.size;omega) (fun e=>by have:=hx j e;omega)⟩
theorem qjZ {W W':World}(h:qdj W W'):Below W.heap.size W W':=⟨h.os,h.tape,h.output,Nat.le_of_eq (by rw[h.heap]),fun j _=>by rw[h.heap]⟩
theorem qd5.step2 {w W W':World}{cs:Value}{k:Nat}{la:Option Addr}{lcap M:Nat}{xs:List Value}(h:qd5 w W cs k)(hM:M≤k)(hl:qdP W w.heap.size w.heap.size cs (.slice none 0 0) la lcap M xs)(hF:Frm W W' (fun j=>j=w.heap.size∨some j=(Value.slice la (4*M) lcap).ownBlock))(hl':∃la' lcap' M' xs',M'≤M+1∧qdP W' w.heap.size w.heap.size cs (.slice none 0 0) la' lcap' M' xs'):qd5 w W' cs (k+1):=by
 obtain⟨la',lcap',M',xs',h1,h2⟩:=hl'
 refine⟨qhq h.below hF (fun j e => ?_),la',lcap',M',xs',by omega,h2⟩
 rcases e with rfl|e
 ·exact Nat.le_refl _
 ·exact qaQ hl.wd.row e.symm
theorem qkc (kind:Int)(hsay:qn6 kind)(ca:Option Addr)(cn ccap:Nat)(sa:Option Addr)(sn scap:Nat)(h:Nat→OpD)(hsn:sn≤100000000)(hst:∀k,k<sn→(h k).s.size≤200000000)(pa:Option Addr)(pcap:Nat)(w:World)(hO:qij w sa sn h)(hP:qdJ w pa [kind])(hg:qbX w):Calls prog 15 #[.slice ca cn ccap,.slice sa sn scap,.slice pa 1 pcap] w fun e w'=>e=.returned (.bool true)∧Below w.heap.size w w':=by
 have HS:Hid (qn6 kind):=hsay
 have HO:Hid (qij w sa sn h):=hO
 have HP:Hid (qdJ w pa [kind]):=hP
 have HG:Hid (qbX w):=hg
 have HST:Hid (∀k,k<sn→(h k).s.size≤200000000):=hst
 clear hsay hO hP hg hst
 have HT:Hid (qd5 w (w.alloc (.cells #[.slice ca cn ccap,.slice none 0 0,.slice none 0 0] 71)) (.slice ca cn ccap) 0):=⟨bwA,none,0,0,[],Nat.le_refl _,qoc _ _ _ _ _ (qab _ _)⟩
 go_enter func15,ntmps15
 go_wp2
 generalize w.alloc (.cells #[.slice ca cn ccap,.slice none 0 0,.slice none 0 0] 71)=W0 at *
 go_loopg [8,9,10,11,12] sn (fun gh x1 x2 x3 x4 x5 wr=>∃k:Nat,Hid (k+gh=sn)∧x1=.int .i64 k∧Hid (qd5 w wr (.slice ca cn ccap) k))
 case atStart=>exact⟨0,by show _=_;omega,rfl,HT⟩
 case round =>
  clear HT
  obtain⟨k,hk,rfl,HX⟩:=hrel
  cases gk with
  |zero =>
   have hlt:¬(k:Int)<sn:=by have:=hk.out;omega
   obtain⟨la,lcap,M,xs,hMk,hls⟩:=HX.out.ls
   have HLS:=qac hls
   have cA:=qk8 wr w.heap.size la (4*M) lcap M xs hls.rd rfl (by have:=hk.out;omega) hls.big hls.hdis hls.grp
   clear hls hMk
   go_wp2_with (first|(go_at_call 37;refine cA.mono ?_;clear cA;rintro e w2 ⟨rfl,hF2⟩;have HF2:=qac hF2;clear hF2))
   go_ret
   exact⟨rfl,qhq HX.out.below HF2.out (fun j ⟨i,v,h1,h2⟩=>by have:=(HLS.out.dis i v j h1 h2).1;omega)⟩
  |succ gh =>
   have hlt:(k:Int)<sn:=by have:=hk.out;omega
   have hlt2:(k:Int)<144115188075855872:=by omega
   obtain⟨b,off,rfl,hbl,hcc⟩:=(HO.out.below HX.out.below).at_ k (by omega)
   have hss:=HST.out k (by omega)
   have k0:wr.cell? ⟨b,off+k*7,none⟩=some (.int .i64 (h k).kind):=hcc k 0 (by omega) (by omega)
   have k1:wr.cell? ⟨b,off+k*7+1,none⟩=some (.int .i64 (h k).a):=hcc k 1 (by omega) (by omega)
   have k2:wr.cell? ⟨b,off+k*7+2,none⟩=some (.int .i64 (h k).b):=hcc k 2 (by omega) (by omega)
   have k3:wr.cell? ⟨b,off+k*7+3,none⟩=some (.int .i64 (h k).c):=hcc k 3 (by omega) (by omega)
   have k4:wr.cell? ⟨b,off+k*7+4,none⟩=some (.int .i64 (h k).d):=hcc k 4 (by omega) (by omega)
   have k5:wr.cell? ⟨b,off+k*7+5,none⟩=some (.string (h k).s):=hcc k 5 (by omega) (by omega)
   have k6:wr.cell? ⟨b,off+k*7+6,none⟩=some (.slice (h k).pp (h k).pl (h k).pc):=hcc k 6 (by omega) (by omega)
   clear hcc
   generalize h k=o at *
   have HSS:Hid (o.s.size≤200000000):=hss
   clear hss
   have hB1:Below wr.heap.size wr (wr.alloc (.cells o.arr 74)):=bwA
   have HX1:=qac (HX.out.step hB1)
   have cM:=qkE pa pcap [kind] o.kind (by simp[maxLen]) (wr.alloc (.cells o.arr 74)) (HP.out.below HX1.out.below)
   have HN:Hid ((wr.alloc (.cells o.arr 74)).heap[wr.heap.size]? = some (.cells o.arr 74)):=qab _ _
   have HIO:Hid ((prog.info? 74).map (·.size)=some o.arr.size):=by show _=_;rw[show o.arr.size=7 from rfl];kernel_rfl
   clear hB1
   by_cases hkk:o.kind=kind
   ·have HKK:Hid (o.kind=kind):=hkk
    have hM:qdm [kind] o.kind=true:=by simp[qdm,hkk]
    rw[hM] at cM
    clear hM hkk
    go_wp2_with (first
     |(go_at_call 34;refine cM.mono ?_;clear cM;rintro e w2 ⟨rfl,rfl⟩;clear k0 k1 k2 k3 k4 k5 k6 hlt2)
     |(refine wpList_load_row rfl 74 _ rfl _ rfl _ _ _ _ HN.out underlying74 rfl HIO.out ?_)
     |fail)
    show Calls prog 35 #[.pointer (some ⟨w.heap.size,0,none⟩),.agg o.arr] (wr.alloc (.cells o.arr 74)) _
    obtain⟨la,lcap,M,xs,hMk,hls⟩:=HX1.out.ls
    refine(HS.out o HKK.out HSS.out (wr.alloc (.cells o.arr 74)) w.heap.size w.heap.size (.slice ca cn ccap) (.slice none 0 0) la lcap M xs hls (by have:=hk.out;omega) HX1.out.below.size (HG.out.below HX1.out.below)).mono ?_
    rintro e w3 ⟨rfl,hF3,hl3⟩
    have HX3:Hid (qd5 w w3 (.slice ca cn ccap) (k+1)):=HX1.out.step2 hMk hls hF3 hl3
    clear hF3 hl3 hls hMk
    obtain⟨la3,lcap3,M3,xs3,hMk3,hls3⟩:=HX3.out.ls
    have cL:=ql1 w3 w.heap.size la3 (4*M3) lcap3 xs3 hls3.rd (by have:=hk.out;omega) hls3.big
    clear hls3 hMk3
    go_wp2_with (first
     |(go_at_call 36;refine cL.mono ?_;clear cL;rintro e w4 ⟨rfl,hs4⟩;have HX4:Hid (qd5 w w4 (.slice ca cn ccap) (k+1)):=HX3.out.step (qjZ hs4);clear hs4))
    go_roundg gh
    case measure=>omega
    case rel=>exact⟨k+1,by show _=_;have:=hk.out;omega,by go_num,HX4⟩
   ·have hM:qdm [kind] o.kind=false:=by simp[qdm];intro e;exact hkk e.symm
    rw[hM] at cM
    clear hM hkk
    go_wp2_with (first
     |(go_at_call 34;refine cM.mono ?_;clear cM;rintro e w2 ⟨rfl,rfl⟩))
    go_roundg gh
    case measure=>omega
    case rel=>exact⟨k+1,by show _=_;have:=hk.out;omega,by go_num,HX1.out.more (Nat.le_succ k)⟩
theorem qj0 (ca:Option Addr)(cn ccap:Nat)(sa:Option Addr)(sn scap:Nat)(h:Nat→OpD)(hsn:sn≤100000000)(hst:∀k,k<sn→(h k).s.size≤200000000)(w:World)(hO:qij w sa sn h)(hg:qbX w):Calls prog 6 #[.slice ca cn ccap,.slice sa sn scap] w fun e w'=>e=.returned (.bool true)∧Below w.heap.size w w':=by
 have hb:Below w.heap.size w (w.alloc (.cells #[.int .i64 5] 3)):=bwA
 have hP:qdJ (w.alloc (.cells #[.int .i64 5] 3)) (some ⟨w.heap.size,0,none⟩) [5]:=⟨fun i hi=>⟨w.heap.size,0,rfl,by simp,fun j hj=>by
  have:j=0:=by simpa using hj
  subst this
  exact qaa (qab _ _) 0⟩⟩
 have cP:=qkc 5 qlp ca cn ccap sa sn scap h hsn hst (some ⟨w.heap.size,0,none⟩) 1 _ (hO.below hb) hP (hg.below hb)
 have HB:Hid (Below w.heap.size w (w.alloc (.cells #[.int .i64 5] 3))):=hb
 clear hb hP hO hg
 go_enter func6,ntmps6
 go_wp2_with (first|(go_at_call 15;refine cP.mono ?_;clear cP;rintro e w2 ⟨rfl,hB2⟩))
 go_ret
 exact⟨rfl,HB.out.trans (hB2.mono (by simp))⟩
end
section
open Go.ChangeShapes Go.WideShapes Go.ChangeAt Go.RowKit Go.Lib Go.Deep
theorem qkP {W:World}(hL:laidMetH prog Rows.checksRow.laid W)(hS:W.ShapedOpen prog):qbX W:=by
 refine⟨(qnF hL hS).tabs,qme hL,?_⟩
 have hL':laidMet prog Rows.checksRow.laid W:=hL
 obtain⟨g,t,cs,fuel,p,hg,hty,hvar,hd⟩:=laidMet.reads hL' (d:=Rows.laid_math_bits_deBruijn64tab) (.tail _ (.head _))
 obtain rfl:g=8:=Option.some.inj (hg.symm.trans (by kernel_rfl))
 unfold World.var? at hvar
 rw[hg] at hvar
 simp only[Option.bind_some] at hvar
 split at hvar
 ·next h=>exact ltA h
 ·cases hvar
section
variable {H:Type} {enc:TypeId×Value→H} {w:World}
theorem qmd:∀d:DataW H,1≤Rows.uptoBulk d
 |.lit l=>by cases l<;>simp[Rows.uptoBulk]
 |.nil=>by rw[Rows.uptoBulk];omega
 |.ptr d=>by rw[Rows.uptoBulk];omega
 |.slice e s=>by rw[Rows.uptoBulk];omega
 |.agg p=>by rw[Rows.uptoBulk];omega
 |.iface _ d=>by rw[Rows.uptoBulk];omega
 |.map e=>by rw[Rows.uptoBulk];omega
 |.held _=>by rw[Rows.uptoBulk];omega
theorem qdW:∀{l:List (DataW H)} {d:DataW H},d∈l→Rows.uptoBulk d≤Rows.uptoBulkAll l
 |[],_,h=>by cases h
 |a::r,d,h=>by
  rw[Rows.uptoBulkAll]
  rcases List.mem_cons.1 h with rfl|h
  ·omega
  ·have:=qdW h
   omega
theorem qiE:∀l:List (DataW H),l.length≤Rows.uptoBulkAll l
 |[]=>Nat.zero_le _
 |a::r=>by
  rw[Rows.uptoBulkAll,List.length_cons]
  have h1:=qiE r
  have h2:=qmd a
  omega
theorem qoh {fuel:Nat}{cs:List Value}{x:DataW H×List MemPlace}(h:DataW.trod enc prog w 0 (fun _=>true) true fuel 74 cs=some x):∃o:OpD,cs=o.arr.toList∧(-9223372036854775808≤o.a∧o.a≤9223372036854775807)∧o.s.size≤Rows.uptoBulk x.1:=by
 obtain⟨xs,n,_,rfl,hl,hlen,hf⟩:=DataW.trod_struct underlying74 h
 rw[qlG] at hl
 match cs,hl,xs,hlen with
 |[v0,v1,v2,v3,v4,v5,v6],_,[y0,y1,y2,y3,y4,y5,y6],_ =>
  have g0:=qmZ hf 0 rfl 3 0 rfl rfl qg0 rfl rfl
  have g1:=qmZ hf 1 rfl 3 1 rfl rfl qg0 rfl rfl
  have g2:=qmZ hf 2 rfl 3 2 rfl rfl qg0 rfl rfl
  have g3:=qmZ hf 3 rfl 3 3 rfl rfl qg0 rfl rfl
  have g4:=qmZ hf 4 rfl 3 4 rfl rfl qg0 rfl rfl
  have g5:=qmZ hf 5 rfl 9 5 rfl rfl qi5 rfl rfl
  have g6:=qmZ hf 6 rfl 72 6 rfl rfl qnq rfl rfl
  obtain⟨z0,e0,_⟩:=DataW.trod_int underlying3 g0
  obtain⟨z1,e1,_,wz⟩:=DataW.trod_int underlying3 g1
  obtain⟨z2,e2,_⟩:=DataW.trod_int underlying3 g2
  obtain⟨z3,e3,_⟩:=DataW.trod_int underlying3 g3
  obtain⟨z4,e4,_⟩:=DataW.trod_int underlying3 g4
  obtain⟨s5,e5,hy5⟩:=DataW.trod_string underlying9 g5
  obtain⟨pa,pn,pc,e6⟩:=qmH (v:=v6) underlying72 (by simpa using g6)
  simp at e0 e1 e2 e3 e4 e5
  subst e0 e1 e2 e3 e4 e5 e6
  have bd:=bounds_i64 wz
  refine⟨⟨z0,z1,z2,z3,z4,s5,pa,pn,pc⟩,rfl,⟨by simpa using bd.1,by simpa using bd.2⟩,?_⟩
  obtain⟨rfl,_⟩:=hy5
  have h1:Rows.uptoBulk (DataW.lit (H:=H) (.string s5.data.toList))≤_:=qdW (l:=[y0,y1,y2,y3,y4,(DataW.lit (.string s5.data.toList),[]),y6].map Prod.fst) (by simp)
  simp only[List.map_cons,List.map_nil] at h1 ⊢
  rw[show Rows.uptoBulk (DataW.lit (H:=H) (.string s5.data.toList))=s5.data.toList.length+1 by rw[Rows.uptoBulk]] at h1
  rw[Rows.uptoBulk]
  have h2:s5.data.toList.length=s5.size:=by rw[Array.length_toList];rfl
  show s5.size≤_
  omega
theorem qnz {fuel:Nat}{v:Value}{x:DataW H×List MemPlace}(h:DataW.trod enc prog w 0 (fun _=>true) true fuel 23 [v]=some x)(hbk:Rows.uptoBulk x.1≤1048576):∃(a:Option Addr) (n cap:Nat) (g:Nat→OpD),v=.slice a n cap∧qij w a n g∧n≤1048576∧∀k,k<n→(g k).s.size≤1048576:=by
 rcases open_slice underlying23 h with ⟨hv,_⟩|⟨a,len,cap,m,n,D,Pl,hv,_,hl,hm,hmm,rfl,hx⟩
 ·cases hv
  exact⟨none,0,0,fun _=>op0,rfl,⟨fun k hk=>by omega,fun k hk=>by omega⟩,by omega,fun k hk=>by omega⟩
 ·cases hv
  have hmc:m=cap:=by rw[hmm];rfl
  subst hmc
  rw[qlG] at hx
  simp only[] at hbk
  rw[Rows.uptoBulk] at hbk
  have hlen:=qiE ((List.range len).map D)
  rw[List.length_map,List.length_range] at hlen
  have hz:∀i,i<len→∃o:OpD,(-9223372036854775808≤o.a∧o.a≤9223372036854775807)∧o.s.size≤1048576∧∀j,j<7→w.cell? ((a.add (i*7)).add j)=o.arr[j]?:=fun i hi=>by
   obtain⟨cs',h1,h2⟩:=hx i (by omega)
   obtain⟨_,hlen,hc⟩:=World.cells?_some h1
   obtain⟨o,rfl,ha,hsz⟩:=qoh h2
   have h3:=qdW (l:=(List.range len).map D) (List.mem_map.2 ⟨i,List.mem_range.2 hi,rfl⟩)
   exact⟨o,ha,by simp only[] at hsz;omega,fun j hj=>(hc j hj).trans (by simp)⟩
  have ih:Inhabited OpD:=⟨op0⟩
  obtain⟨g,hg⟩:=choose_lt hz
  refine⟨some a,len,m,g,rfl,⟨fun k hk => ?_,fun k hk=>(hg k hk).1⟩,by omega,fun k hk=>(hg k hk).2.1⟩
  obtain⟨b,off,rfl,hlt⟩:=qkM (w:=w) (a:=a) (v:=.int .i64 (g 0).kind) (by
   have:=(hg 0 (by omega)).2.2 0 (by omega)
   rw[Nat.zero_mul,add_add] at this
   exact this)
  refine⟨b,off,rfl,hlt,fun k j hk hj => ?_⟩
  have:=(hg k hk).2.2 j hj
  rw[add_add,qi4] at this
  rw[←this,Nat.add_assoc]
end
theorem qeo (H:Type)(enc:TypeId×Value→H)(W:World)(args:Array Value)(ds gs:List (DataW H))(before:List MemPlace)(base:Nat)(hval:∀(j:Nat) t v,f6.params[j]? = some t→args[j]? = some v→Value.okWide prog W .any base t v)(hW:DataW.Whole enc prog f6.params.toList Rows.unpadsSpec.vars false W args.toList ds gs before)(hk:Rows.uptoSmall H (ds++gs)=true)(hL:laidMetH prog Rows.unpadsUptoRow.laid W)(hS:W.ShapedOpen prog):Calls prog 6 args W fun e W'=>∃v,e=.returned v∧Rows.unpadsSpec.post enc prog f6 false true false false W args v W':=by
 have hW':=hW
 obtain⟨p,q,hA0,hV,rfl,hfz,hnd⟩:=hW
 have hA:DataW.TrodAll enc prog W 0 (fun _=>true) true f6.params.toList args.toList ds p:=hA0
 rw[Tryz.params6] at hA hval
 obtain⟨v0,v1,d0,d1,p0,p1,rfl,rfl,rfl,h0,h1⟩:=trodAll_two hA
 obtain⟨rfl,rfl⟩:=trodVars_none hV
 obtain⟨a0,l0,c0,rfl⟩:=okWide_slice underlying22 (hval 0 22 v0 rfl rfl)
 obtain⟨a1,l1,c1,rfl⟩:=okWide_slice underlying23 (hval 1 23 v1 rfl rfl)
 obtain⟨n0,h0'⟩:=h0
 obtain⟨n1,h1'⟩:=h1
 have hk':Rows.uptoBulkAll [d0,d1]≤1048576:=of_decide_eq_true hk
 have hb1:=Nat.le_trans (qdW (l:=[d0,d1]) (d:=d1) (by simp)) hk'
 obtain⟨sa,sn,scap,h,ev1,hO,hsn,hst⟩:=qnz (v:=.slice a1 l1 c1) (x:=(d1,p1)) h1' hb1
 cases ev1
 refine(qj0 _ _ _ _ _ _ h (by omega) (fun k hk=>by have:=hst k hk;omega) W hO (qkP hL hS)).mono ?_
 rintro e W' ⟨rfl,hB⟩
 have hlt:∀x∈p0++p1++[],x.block<W.heap.size:=fun x hx=>hW'.lt x hx
 refine⟨_,rfl,[d0,d1],[],p0++p1++[],[],p0++p1,[],hW',trodAll_mk1 (shut_bool underlying4 true),?_,rfl,hB.frame _,fun h=>by cases h⟩
 exact trodAll_mk2 (Below.trod Tryz.laidOut (by kernel_rfl) (of_decide_eq_true (by kernel_rfl)) ⟨n0,h0'⟩ hB (fun x hx=>hlt x (by simp[hx]))) (Below.trod Tryz.laidOut (by kernel_rfl) (of_decide_eq_true (by kernel_rfl)) ⟨n1,h1'⟩ hB (fun x hx=>hlt x (by simp[hx])))
end
section
open Go.ChangeShapes Go.WideShapes Go.ChangeAt Go.RowKit Go.Lib
theorem qgf (os:Os){H:Type}(enc:TypeId×Value→H):∃places,DataW.whole enc prog ((qnl (World.holding prog os ⟨#[],#[],[]⟩)).forCall (fun _ _=>0) ⟨#[],#[.slice none 0 0,.slice none 0 0],[]⟩).memory f6.params.toList Rows.unpadsSpec.vars false #[Value.slice none 0 0,Value.slice none 0 0].toList 8=some ([.nil,.nil],[],places) :=
 ⟨[],by kernel_rfl⟩
theorem qfr (os:Os)(started:os.Started)(H:Type)(enc:TypeId×Value→H)(F:Stop.Interp):ReturnsInHanded {} Tryz.checked os 6 .any ((Rows.OpenSpec.upto Rows.unpadsSpec).preRow enc prog f6 Rows.unpadsUptoRow.domain false Rows.unpadsUptoRow.laid) (((Rows.OpenSpec.upto Rows.unpadsSpec).at F).post enc prog f6 false true false false):=by
 obtain⟨places,hx⟩:=qgf os enc
 refine returnsInHanded_of_row (C:=Tryz.checked) (s:=Rows.OpenSpec.upto Rows.unpadsSpec) Tryz.own started (by kernel_rfl) func6
  (witness_row_at (enc:=enc) (C:=Tryz.checked) false (qnl (World.holding prog os ⟨#[],#[],[]⟩)) #[.slice none 0 0,.slice none 0 0] rfl (by kernel_rfl) (by kernel_rfl) (by kernel_rfl)
   (OpenSpec.preRow_of_cond 8 hx (by kernel_rfl) (fun k hk=>by obtain rfl:=Option.some.inj hk;kernel_rfl) (by kernel_rfl) (qmh os))) ?_
 intro W base args ds gs before hval hW _ hk _ hL hS _
 exact qeo H enc W args ds gs before base hval hW (hk _ rfl) hL hS
theorem qlE:(Rows.unpadsUptoRow.inPlace==Tryz.pinned.checked.prog.inPlace 6)=true:=by kernel_rfl
theorem qlA:(Rows.unpadsUptoRow.unfollowed==Tryz.pinned.checked.prog.unfollowed 6)=true:=by kernel_rfl
theorem ql7:(Rows.unpadsUptoRow.recurses==Tryz.pinned.checked.prog.recurses 6)=true:=by kernel_rfl
theorem qli:(Rows.unpadsUptoRow.named==Tryz.pinned.checked.prog.varsNamed 6)=true:=by kernel_rfl
theorem qhy:joinedFacts Tryz.pinned.checked.prog 6 f6 (Rows.OpenSpec.upto Rows.unpadsSpec).bare Rows.unpadsUptoRow=true:=by
 unfold joinedFacts
 rw[qlE,qlA,ql7,qli]
 kernel_rfl
theorem qhF:Rows.UnpadsUptoSaid :=
 OpenClaim.holds_of_cond 6 f6 rfl rfl rfl rfl rfl rfl rfl ⟨rfl,rfl,rfl,rfl,rfl⟩ rfl rfl rfl rfl rfl (by kernel_rfl) func6 qhy
  (of_decide_eq_true (by kernel_rfl)) (by unfold Func.isWrapper;first|(rw[if_pos (by decide +kernel)];kernel_rfl)|(rw[if_neg (by decide +kernel)];exact⟨rfl,rfl⟩))
  (fun os started H enc _ F=>by rw[OpenClaim.pre_eq_preRow];exact qfr os started H enc F)
theorem qhd (f:FuncId)(fn:Func)(hf:Tryz.pinned.checked.prog.funcNamed Rows.unpadsUptoRow.func=some f)(hfn:Tryz.pinned.checked.prog.funcs[f]? = some fn):true=Tryz.pinned.checked.prog.looks []∧∀(j:Nat) t,fn.params[j]? = some t→Tryz.pinned.checked.prog.wantsStandIn t=false:=by
 obtain rfl:f=6:=Option.some.inj ((show prog.funcNamed Rows.unpadsUptoRow.func=some 6 by kernel_rfl).symm.trans hf) |>.symm
 obtain rfl:fn=f6:=(Option.some.inj (func6.symm.trans hfn)).symm
 refine⟨by kernel_rfl,fun j t ht => ?_⟩
 rw[Tryz.params6] at ht
 have hm:t∈#[(22:TypeId),23]:=Array.mem_of_getElem? ht
 rcases(by simpa using hm:t=22∨t=23) with rfl|rfl
 ·exact(show prog.wantsStandIn 22=false by kernel_rfl)
 ·exact(show prog.wantsStandIn 23=false by kernel_rfl)
theorem unpads_card:Rows.UnpadsUptoCardSaid :=
 Claim7.holds_tied_plain_at .later [] _ _ _ _ qhF (fun _ h=>by cases h) (by kernel_rfl) (fun _ h=>by cases h) unpadsUpto_row_tie rfl ⟨rfl,rfl⟩ (by kernel_rfl) rfl qhd (by kernel_rfl)
#print axioms unpads_card
end
end Go.Proofs.YtllcbnfmihfaaaaGreatDoor
