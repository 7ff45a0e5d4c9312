import Derived.Test.YtllcbnfmihfaaaaGreatDoorUq43
import Derived.Test.YtllcbnfmihfaaaaGreatDoorUq42
import Derived.Test.YtllcbnfmihfaaaaGreatDoorUq37
import Derived.Test.YtllcbnfmihfaaaaGreatDoorUq39
set_option maxRecDepth 100000
set_option maxHeartbeats 8000000
namespace Go.Proofs.YtllcbnfmihfaaaaGreatDoor
open Go.Proofs.Tryz
section
open Go.RowKit Go.Lib
theorem qkB (k:Nat)(W:World)(bs:List UInt8)(fm d l lim:Int)(i:Nat)(dp:Int)(b:Nat)(ka ua:Option Addr)(kn kc un uc:Nat)(ex:Nat→Prop)(kl:List (List UInt8))(ds:List (DataW Unit))(hl:Lm bs l lim)(hi:InR bs lim i)(hb:bs.length≤200000000)(hm:qdz k W b (.slice ka kn kc) (.slice ua un uc) ex kl ds)(hkl:kl.length≤200000000)(rd:Nat→Except (Int×Int) (DataW Unit×Nat))(hlm:∀p:Nat,(p:Int)=lim→p<bs.length→rd p=.error (8,(p:Int)))(hbw:b≤W.heap.size)(hex:∀j,ex j→j<W.heap.size)(hd0:0≤dp)(hd1:dp≤100000)(cJ:∀V (p:Nat),InR bs lim p→Calls prog 115 #[.agg (inA bs fm d l),.int .i64 p,.int .i64 (dp+1)] V (qa5 k bs lim V (rd p))):Calls prog 205 #[.agg (inA bs fm d l),.agg (thA 7 0 ⟨#[]⟩ (.slice ka kn kc) (.slice ua un uc)),.int .i64 i,.int .i64 dp] W (qek k bs lim W b (.slice ka kn kc) (.slice ua un uc) ex kl ds (enJ bs lim rd (kl.reverse,esZ kl ds) i)):=by
 obtain⟨R,hR⟩:∃R,enJ bs lim rd (kl.reverse,esZ kl ds) i=R:=⟨_,rfl⟩
 rw[hR]
 rcases qmy hl hlm hi hR with ⟨h1,h2⟩|⟨c,hc,h1,⟨hv,h2⟩|⟨hv,hi1,⟨f,hr,h2⟩|⟨t,r,hr,hri,hrp,⟨hin,h2⟩|⟨hin,hq,⟨f,hw,h2⟩|⟨p3,hw,hp3,hrp3,hp4,hle,hRL⟩⟩⟩⟩⟩
 ·exact qlU k W bs fm d l lim i dp b ka ua kn kc un uc ex kl ds R _ h1 h2 rfl
 ·exact qh9 k W bs fm d l lim i dp b ka ua kn kc un uc ex kl ds R _ c hc hv h1 h2 rfl
 ·exact qjP k W bs fm d l lim i dp b ka ua kn kc un uc ex kl ds R f c hc hv h1 hb hl hi1 hr h2
 ·exact qil k W bs fm d l lim i dp b ka ua kn kc un uc ex kl ds R _ c hc hv h1 hb hl hi1 hm hkl t r hr hin rfl (by omega) hri.1 h2
 ·exact qjA k W bs fm d l lim i dp b ka ua kn kc un uc ex kl ds R f c hc hv h1 hb hl hi1 hm hkl t r hr hin hri.1 _ rfl hq hw h2
 ·exact qiq k W bs fm d l lim i dp b ka ua kn kc un uc ex kl ds R c hc hv h1 hb hl hi1 hm hkl t r hr hin hri.1 _ rfl hq rd hbw hex hd0 hd1 p3 _ hw hp3.1 rfl hp4 hRL cJ
theorem qnn {α:Type}{bs:List UInt8}{lim:Int}{itF:α→Nat→Except (Int×Int) (α×Nat)}{last g p:Nat}{acc:α}{R:Except (Int×Int) (α×Nat)}{f:Int×Int}(h:qd2 bs lim itF last g p acc R)(hlo:qaZ bs lim (itF acc p) (.error f))(hlm:(p:Int)=lim→p<bs.length→itF acc p=.error (8,(p:Int))):R=.error f:=by
 have hr:itF acc p=.error f:=by
  rcases hlo with h|⟨q,_,_,_,x,h4⟩
  ·exact h
  ·cases h4
 rcases h.2 with ⟨g',_,h2⟩|⟨h2,h3,h4⟩
 ·rw[←h2]
  unfold qmR
  rw[hr]
 ·rw[hlm h2 h3] at hr
  injection hr with hr
  rw[h4,hr]
theorem qm1 {α:Type}{bs:List UInt8}{l lim:Int}(hl:Lm bs l lim){itF:α→Nat→Except (Int×Int) (α×Nat)}{last g p q p3:Nat}{acc acc':α}{R:Except (Int×Int) (α×Nat)}(h:qd2 bs lim itF last g p acc R)(hlo:qaZ bs lim (itF acc p) (.ok (acc',q)))(hlm:(p:Int)=lim→p<bs.length→itF acc p=.error (8,(p:Int)))(hgo:∀x q,itF acc p=.ok (x,q)→p<q)(hqi:InR bs lim q)(hg:bs.length+1≤p+g)(hp3:p3=skR bs l (bs.length+1-q) q):InR bs lim p3∧((qaz bs l p3=false∧R=.error (qaI bs l p3 9))∨∃c,bs[p3]? = some c∧qaz bs l p3=true∧((c.toNat=last∧R=.ok (acc',p3+1)∧InR bs lim (p3+1))∨(¬c.toNat=last∧c.toNat=44∧InR bs lim (p3+1)∧∃g',g=g'+2∧p<p3∧qd6 bs lim itF last (g'+1) (p3+1) acc'=R)∨(¬c.toNat=last∧¬c.toNat=44∧R=.error (qaI bs l p3 9)))):=by
 rcases hlo with hr|⟨q',h1,h2,h3,x,h4⟩
 ·have hpq:=hgo acc' q hr
  rcases h.2 with ⟨g',e,hits⟩|⟨h2,h3,h4⟩
  ·obtain⟨a1,a2,a3⟩:=qgV hl hqi hp3 hr hits
   refine⟨a1,?_⟩
   rcases a3 with a3|⟨c,b1,b2,b3⟩
   ·exact .inl a3
   ·refine .inr ⟨c,b1,b2,?_⟩
    rcases b3 with b3|⟨c1,c2,c3,c4⟩|b3
    ·exact .inl b3
    ·have:=ltL b1
     obtain⟨g2,rfl⟩:∃g2,g'=g2+1:=⟨g'-1,by omega⟩
     exact .inr (.inl ⟨c1,c2,c3,g2,by omega,by omega,c4⟩)
    ·exact .inr (.inr b3)
  ·rw[hlm h2 h3] at hr
   cases hr
 ·injection h4 with h4
  injection h4 with h5 h6
  subst h6
  obtain⟨e1,e2,e3⟩:=qiB hl h2 h3
  rw[e1] at hp3
  subst hp3
  refine⟨hqi,.inl ⟨e2,?_⟩⟩
  rw[e3]
  rcases h.2 with ⟨g',_,hits⟩|⟨k2,k3,k4⟩
  ·rw[←hits]
   unfold qmR
   rw[h1]
  ·rw[hlm k2 k3] at h1
   injection h1 with h1
   rw[k4,h1]
theorem qlF {bs:List UInt8}{lim:Int}{rd:Nat→Except (Int×Int) (DataW Unit×Nat)}{a:List (List UInt8)×List (Lit×DataW Unit)}{p:Nat}(hp:(p:Int)=lim)(hl:p<bs.length):enJ bs lim rd a p=.error (8,(p:Int)):=by
 unfold enJ qkl
 rw[qaw,List.getElem?_eq_getElem hl]
 simp only[]
 rw[if_pos hp]
def maR (r:Except (Int×Int) ((List (List UInt8)×List (Lit×DataW Unit))×Nat)):Except (Int×Int) (DataW Unit×Nat):=match r with
 |.error e=>.error e
 |.ok (es,q)=>.ok (.map es.2,q)
theorem qkL {W V:World}{A:Array Value}{kd n:Int}{s:ByteArray}{kv u:Value}(h:qcr W A (thA kd n s kv u) V)(x:Int):qcr W A (thA x n s kv u) (V.setCell ⟨W.heap.size+3,0,none⟩ (.int .i64 x)):=by
 have ho:∀j,j≠W.heap.size+3→(V.setCell ⟨W.heap.size+3,0,none⟩ (.int .i64 x)).heap[j]? = V.heap[j]?:=fun j hj=>heap_setCell_other V _ _ _ (by simpa using hj)
 refine⟨(ho _ (by omega)).trans h.box,(ho _ (by omega)).trans h.th,(ho _ (by omega)).trans h.flt,?_,h.below.trans ⟨rfl,rfl,rfl,by simp[World.setCell],fun j hj=>ho j (by omega)⟩⟩
 rw[heap_setCell_same _ _ _ _ _ _ h.tv]
 rfl
theorem qnO {W V V':World}{A y:Array Value}{kv u:Value}(h:qcr W A y V)(ht:Two V V' kv u)(hk:∀g,kv.ownBlock=some g→W.heap.size+4≤g)(hu:∀g,u.ownBlock=some g→W.heap.size+4≤g):qcr W A y V':=by
 have hs:=h.size
 have hn:∀j,j<W.heap.size+4→V'.heap[j]? = V.heap[j]?:=fun j hj=>ht.block j (by omega) (fun e=>by have:=hk j e.symm;omega) (fun e=>by have:=hu j e.symm;omega)
 exact⟨(hn _ (by omega)).trans h.box,(hn _ (by omega)).trans h.th,(hn _ (by omega)).trans h.flt,(hn _ (by omega)).trans h.tv,h.below.trans ⟨ht.os,ht.tape,ht.output,ht.size,fun j hj=>hn j (by omega)⟩⟩
theorem qmN {W V:World}{A y:Array Value}(h:qcr W A y V)(z:Array Value):qcr W A z (V.setRow (W.heap.size+3) z) :=
 ⟨sx (by omega) h.box,sx (by omega) h.th,sx (by omega) h.flt,setRow_heap _ _ _ _ _ _ h.tv,qai h.below (by omega) _⟩
theorem qlm {W V:World}{A y:Array Value}(h:qcr W A y V)(j:Nat)(hj:W.heap.size+4≤j)(z:Array Value):qcr W A y (V.setRow j z) :=
 ⟨sx (by omega) h.box,sx (by omega) h.th,sx (by omega) h.flt,sx (by omega) h.tv,qai h.below (by omega) _⟩
theorem qlc (W:World)(bs:List UInt8)(fm d l lim:Int)(i x:Nat)(n:Int)(hn:n=min (x:Int) 9223372036854775807)(hl:Lm bs l lim)(hi:InR bs lim i)(hb:bs.length≤200000000):Calls prog 176 #[.agg (inA bs fm d l),.int .i64 i,.int .i64 n,.bool false] W fun e W'=>qlZ (qch bs lim x i []) e∧Below W.heap.size W W':=by
 have h1:=hi.1
 by_cases hx:x≤bs.length
 ·have e:n=(x:Int):=by omega
  subst e
  exact qnY W bs fm d l lim i x hl hi hb hx
 ·by_cases ho:(i:Int)+n≤9223372036854775807
  ·exact qof W bs fm d l lim i x hl hi hb n (by omega) (by omega) ho
  ·exact qnQ W bs fm d l lim i x hl hi hb n (by omega) (by omega) (by omega) (by omega)
theorem qiK (W:World)(bs:List UInt8)(fm d l lim:Int)(i x:Nat)(n:Int)(hn:n=min (x:Int) 9223372036854775807)(hl:Lm bs l lim)(hi:InR bs lim i)(hb:bs.length≤200000000):Calls prog 176 #[.agg (inA bs fm d l),.int .i64 i,.int .i64 n,.bool true] W fun e W'=>qlZ (qbt bs lim x i [] 0) e∧Below W.heap.size W W':=by
 have h1:=hi.1
 by_cases hx:x≤bs.length
 ·have e:n=(x:Int):=by omega
  subst e
  exact qnN W bs fm d l lim i x hl hi hb hx
 ·by_cases ho:(i:Int)+n≤9223372036854775807
  ·exact qok W bs fm d l lim i x hl hi hb n (by omega) (by omega) ho
  ·exact qnT W bs fm d l lim i x hl hi hb n (by omega) (by omega) (by omega) (by omega)
theorem qjd {bs:List UInt8}{lim:Int}:∀(k p:Nat) (acc l:List UInt8) (q:Nat),InR bs lim p→qch bs lim k p acc=.ok (l,q)→InR bs lim q∧p≤q
 |0,p,acc,l,q,hi,h=>by
  rw[qch] at h
  injection h with h
  injection h with _ h
  subst h
  exact⟨hi,Nat.le_refl _⟩
 |k+1,p,acc,l,q,hi,h=>by
  rw[qch] at h
  cases hc:bs[p]? with
  |none=>rw[hc] at h;cases h
  |some c =>
   rw[hc] at h
   simp only[] at h
   by_cases hp:(p:Int)=lim
   ·rw[if_pos hp] at h;cases h
   ·rw[if_neg hp] at h
    have:=qjd k (p+1) _ l q (qav hi hc hp) h
    exact⟨this.1,by omega⟩
theorem qf8 {bs:List UInt8}{lim:Int}:∀(k p:Nat) (acc:List UInt8) (wh:Nat) (l:List UInt8) (q:Nat),InR bs lim p→qbt bs lim k p acc wh=.ok (l,q)→InR bs lim q∧p≤q
 |0,p,acc,wh,l,q,hi,h=>by
  rw[qbt] at h
  split at h
  ·injection h with h
   injection h with _ h
   subst h
   exact⟨hi,Nat.le_refl _⟩
  ·cases h
 |k+1,p,acc,wh,l,q,hi,h=>by
  rw[qbt] at h
  cases hc:bs[p]? with
  |none=>rw[hc] at h;cases h
  |some c =>
   rw[hc] at h
   simp only[] at h
   by_cases hp:(p:Int)=lim
   ·rw[if_pos hp] at h;cases h
   ·rw[if_neg hp] at h
    split at h
    ·cases h
    ·have:=qf8 k (p+1) _ _ l q (qav hi hc hp) h
     exact⟨this.1,by omega⟩
def qaK (k:Nat)(bs:List UInt8)(lim:Int)(W:World)(r:Except (Int×Int) (DataW Unit×Nat))(e:Ending)(W':World):Prop :=
 Below W.heap.size W W'∧match r with
 |.ok (d,q)=>InR bs lim q∧∃kd n s a i j b p m,e=.returned (.tuple #[.agg (thA kd n s (.slice a i j) (.slice b p m)),.int .i64 q,.agg (qae (0,0))])∧qbD k W' (fun j=>W.heap.size≤j∧j<W'.heap.size) (.agg (thA kd n s (.slice a i j) (.slice b p m))) d
 |.error f=>∃kd n s a i j b p m z,e=.returned (.tuple #[.agg (thA kd n s (.slice a i j) (.slice b p m)),.int .i64 z,.agg (qae f)])
theorem qog {k:Nat}{bs:List UInt8}{lim:Int}{W W':World}{r:Except (Int×Int) (DataW Unit×Nat)}{e:Ending}(h:qaK k bs lim W r e W'):qa5 k bs lim W r e W':=⟨h.1,r,.inl rfl,h.2⟩
structure qbS (W:World)(A H y:Array Value)(V:World):Prop where
 box:V.heap[W.heap.size]? = some (.cells A 143)
 hd:V.heap[W.heap.size+1]? = some (.cells H 294)
 th:V.heap[W.heap.size+2]? = some (.cells th0 93)
 flt:V.heap[W.heap.size+3]? = some (.cells (qae (0,0)) 95)
 tv:V.heap[W.heap.size+4]? = some (.cells y 93)
 below:Below W.heap.size W V
theorem qbS.keep {W V V':World}{A H y:Array Value}(h:qbS W A H y V)(hb:Below W.heap.size W V')(hk:∀j,W.heap.size≤j→j<W.heap.size+5→V'.heap[j]? = V.heap[j]?):qbS W A H y V' :=
 ⟨(hk _ (by omega) (by omega)).trans h.box,(hk _ (by omega) (by omega)).trans h.hd,(hk _ (by omega) (by omega)).trans h.th,(hk _ (by omega) (by omega)).trans h.flt,(hk _ (by omega) (by omega)).trans h.tv,hb⟩
theorem qbS.size {W V:World}{A H y:Array Value}(h:qbS W A H y V):W.heap.size+5≤V.heap.size:=ltA h.tv
theorem qbS.next {W V V':World}{A H y:Array Value}(h:qbS W A H y V)(hb:Below V.heap.size V V'):qbS W A H y V':=h.keep (h.below.trans (hb.mono h.below.size)) (fun j _ hj=>hb.block j (by have:=h.size;omega))
theorem qbS.drew {W V:World}{A H y:Array Value}(h:qbS W A H y V):qbS W A H y V.drew:=⟨h.box,h.hd,h.th,h.flt,h.tv,h.below.drew⟩
theorem qiM (W:World)(A H:Array Value):qbS W A H th0 (((((W.alloc (.cells A 143)).alloc (.cells H 294)).alloc (.cells th0 93)).alloc (.cells (qae (0,0)) 95)).alloc (.cells th0 93)):=by
 have e1:=qab W (.cells A 143)
 have e2:=qab (W.alloc (.cells A 143)) (.cells H 294)
 have e3:=qab ((W.alloc (.cells A 143)).alloc (.cells H 294)) (.cells th0 93)
 have e4:=qab (((W.alloc (.cells A 143)).alloc (.cells H 294)).alloc (.cells th0 93)) (.cells (qae (0,0)) 95)
 have e5:=qab ((((W.alloc (.cells A 143)).alloc (.cells H 294)).alloc (.cells th0 93)).alloc (.cells (qae (0,0)) 95)) (.cells th0 93)
 simp only[World.size_alloc] at e2 e3 e4 e5
 have hB:Below W.heap.size W (((((W.alloc (.cells A 143)).alloc (.cells H 294)).alloc (.cells th0 93)).alloc (.cells (qae (0,0)) 95)).alloc (.cells th0 93)):=((((bwA).alloc (by simp only[World.size_alloc];omega) _).alloc (by simp only[World.size_alloc];omega) _).alloc (by simp only[World.size_alloc];omega) _).alloc (by simp only[World.size_alloc];omega) _
 refine⟨?_,?_,?_,?_,e5,hB⟩
 ·rw[Below.heap_alloc _ _ _ (by simp only[World.size_alloc];omega),Below.heap_alloc _ _ _ (by simp only[World.size_alloc];omega),Below.heap_alloc _ _ _ (by simp only[World.size_alloc];omega),Below.heap_alloc _ _ _ (by simp only[World.size_alloc];omega)]
  exact e1
 ·rw[Below.heap_alloc _ _ _ (by simp only[World.size_alloc];omega),Below.heap_alloc _ _ _ (by simp only[World.size_alloc];omega),Below.heap_alloc _ _ _ (by simp only[World.size_alloc];omega)]
  exact e2
 ·rw[Below.heap_alloc _ _ _ (by simp only[World.size_alloc];omega),Below.heap_alloc _ _ _ (by simp only[World.size_alloc];omega)]
  exact e3
 ·rw[Below.heap_alloc _ _ _ (by simp only[World.size_alloc];omega)]
  exact e4
theorem qbS.row {W V:World}{A H y:Array Value}(h:qbS W A H y V)(z:Array Value):qbS W A H z (V.setRow (W.heap.size+4) z) :=
 ⟨sx (by omega) h.box,sx (by omega) h.hd,sx (by omega) h.th,sx (by omega) h.flt,setRow_heap _ _ _ _ _ _ h.tv,qai h.below (by omega) _⟩
theorem qbS.else {W V:World}{A H y:Array Value}(h:qbS W A H y V)(j:Nat)(hj:W.heap.size+5≤j)(z:Array Value):qbS W A H y (V.setRow j z) :=
 h.keep (qai h.below (by omega) _) (fun i _ hi=>setRow_other _ _ _ _ (by omega))
theorem qbS.cell {W V:World}{A H:Array Value}{kd n:Int}{s:ByteArray}{kx ux:Value}(h:qbS W A H (thA kd n s kx ux) V)(v':Value):qbS W A H (thA kd n s v' ux) (V.setCell ⟨W.heap.size+4,3,none⟩ v')∧qbS W A H (thA kd n s kx v') (V.setCell ⟨W.heap.size+4,4,none⟩ v'):=by
 have ho:∀i j,j≠W.heap.size+4→(V.setCell ⟨W.heap.size+4,i,none⟩ v').heap[j]? = V.heap[j]?:=fun i j hj=>heap_setCell_other V _ _ _ (by simpa using hj)
 have hz:∀i,Below W.heap.size W (V.setCell ⟨W.heap.size+4,i,none⟩ v'):=fun i=>h.below.trans ⟨rfl,rfl,rfl,by simp[World.setCell],fun j hj=>ho i j (by omega)⟩
 refine⟨⟨(ho _ _ (by omega)).trans h.box,(ho _ _ (by omega)).trans h.hd,(ho _ _ (by omega)).trans h.th,(ho _ _ (by omega)).trans h.flt,?_,hz 3⟩,⟨(ho _ _ (by omega)).trans h.box,(ho _ _ (by omega)).trans h.hd,(ho _ _ (by omega)).trans h.th,(ho _ _ (by omega)).trans h.flt,?_,hz 4⟩⟩
 ·rw[heap_setCell_same _ _ _ _ _ _ h.tv]
  rfl
 ·rw[heap_setCell_same _ _ _ _ _ _ h.tv]
  rfl
theorem qbS.grow {W V w5:World}{A H y:Array Value}{o:Obj}{x:Option Nat}(h:qbS W A H y V)(hx:∀g,x=some g→W.heap.size+5≤g)(hg:(V.alloc o).grownBy w5 x):qbS W A H y w5:=by
 have hs:=h.size
 have hgs:V.heap.size+1≤w5.heap.size:=by have:=hg.size;simpa using this
 have hn:∀j,j<W.heap.size+5→w5.heap[j]? = V.heap[j]?:=fun j hj=>qbl hg (by omega) (fun e=>by have:=hx j e.symm;omega)
 exact h.keep (h.below.trans ⟨hg.os,hg.tape,hg.output,by omega,fun j hj=>hn j (by omega)⟩) (fun j _ hj=>hn j hj)
theorem qbS.fin {W V:World}{A H y:Array Value}(h:qbS W A H y V)(z:Array Value)(x:Int×Int):((V.setRow (W.heap.size+2) z).setRow (W.heap.size+3) (qae x)).heap[W.heap.size+2]? = some (.cells z 93)∧((V.setRow (W.heap.size+2) z).setRow (W.heap.size+3) (qae x)).heap[W.heap.size+3]? = some (.cells (qae x) 95)∧Below W.heap.size W ((V.setRow (W.heap.size+2) z).setRow (W.heap.size+3) (qae x)):=by
 refine⟨?_,?_,qai (qai h.below (by omega) _) (by omega) _⟩
 ·rw[setRow_other _ _ _ _ (by omega)]
  exact setRow_heap _ _ _ _ _ _ h.th
 ·exact setRow_heap _ _ _ _ _ _ (sx (by omega) h.flt)
theorem qar (w2:World)(o1 o2:Obj)(a f:Array Value):Below w2.heap.size w2 ((((w2.alloc o1).alloc o2).setRow w2.heap.size a).setRow (w2.heap.size+1) f) :=
 qai (qai ((bwA).alloc (by simp only[World.size_alloc];omega) _) (Nat.le_refl _) _) (by omega) _
theorem qak (w2:World)(o1 o2:Obj):((w2.alloc o1).alloc o2).heap[w2.heap.size]? = some o1∧((w2.alloc o1).alloc o2).heap[w2.heap.size+1]? = some o2:=by
 have e2:=qab (w2.alloc o1) o2
 simp only[World.size_alloc] at e2
 exact⟨(Below.heap_alloc _ _ _ (by simp only[World.size_alloc];omega)).trans (qab _ _),e2⟩
theorem qci {w:World}{o:Obj}{a b f:Array Value}{t:TypeId}:((((w.alloc o).alloc (.cells a t)).setRow w.heap.size b).setRow (w.heap.size+1) f).heap[w.heap.size+1]? = some (.cells f t):=setRow_heap _ _ _ _ _ _ ((setRow_other _ _ _ _ (by omega)).trans (qak w _ _).2)
theorem qdf {w:World}{o:Obj}{a b f:Array Value}{t:TypeId}:((((w.alloc (.cells a t)).alloc o).setRow w.heap.size b).setRow (w.heap.size+1) f).heap[w.heap.size]? = some (.cells b t):=(setRow_other _ _ _ _ (by omega)).trans (setRow_heap _ _ _ _ _ _ (qak w _ _).1)
structure qe5 (k:Nat)(V:World)(b:Nat)(kv u:Value)(kl:List (List UInt8))(ds:List (DataW Unit)):Prop where
 keys:V.ownsRow b 9 1 kv kl.length (kl.map qhG)
 kids:qbh k V b u (fun j=>some j=kv.ownBlock) ds
 apart:∀g,kv.ownBlock=some g→¬u.ownBlock=some g
theorem qnW (k:Nat)(V:World)(b:Nat):qe5 k V b qaf qaf [] []:=⟨World.ownsRow_nil _ _ _ _,qdq _ _ _ _,fun g h=>by cases h⟩
theorem qe5.next {k:Nat}{V V':World}{b:Nat}{kv u:Value}{kl:List (List UInt8)}{ds:List (DataW Unit)}(h:qe5 k V b kv u kl ds)(hs:V.heap.size≤V'.heap.size)(hk:∀j,b≤j→j<V.heap.size→V'.heap[j]? = V.heap[j]?):qe5 k V' b kv u kl ds :=
 ⟨qiO h.keys hk,h.kids.next hs hk,h.apart⟩
theorem qe5.map {k:Nat}{V:World}{b B:Nat}{kv u:Value}{kl:List (List UInt8)}{ds:List (DataW Unit)}(h:qe5 k V b kv u kl ds)(hn:kl.length=ds.length)(hB:B≤b):qbD (k+1) V (fun j=>B≤j∧j<V.heap.size) (.agg (thA 7 0 ⟨#[]⟩ kv u)) (.map (esZ kl ds)):=by
 obtain⟨xs,h1,h2⟩:=h.kids
 have hF:∀g,b≤g→g<V.heap.size→B≤g∧g<V.heap.size:=fun g hg1 hg2=>⟨by omega,hg2⟩
 refine⟨kv,u,xs,rfl,?_,?_,fun i key d hd => ?_⟩
 ·rw[qcF hn,qhQ hn,←hn]
  exact qbx h.keys _ hF
 ·rw[qcF hn]
  exact qbx h1 _ hF
 ·obtain⟨e1,l,e2⟩:=qkN hd
  obtain⟨a,e3,e4⟩:=h2 i d e1
  exact⟨l,a,e2,e3,e4.same (fun j hj=>⟨by have:=hj.1;omega,hj.2.1⟩) (fun _ _=>rfl)⟩
theorem qe5.key {k:Nat}{V w5:World}{b:Nat}{kv u v':Value}{kl:List (List UInt8)}{ds:List (DataW Unit)}{t:List UInt8}{o:Obj}(h:qe5 k V b kv u kl ds)(hown:w5.ownsRow b 9 1 v' (kl.length+1) (kl.map qhG++[qhG t]))(hg:(V.alloc o).grownBy w5 kv.ownBlock)(hw:v'.ownBlock=kv.ownBlock∨v'.ownBlock=some (V.alloc o).heap.size):qe5 k w5 b v' u (kl++[t]) ds:=by
 obtain⟨xs,h1,h2⟩:=h.kids
 have hgs:V.heap.size+1≤w5.heap.size:=by have:=hg.size;simpa using this
 have hne:∀j,j<V.heap.size→some j≠kv.ownBlock→¬some j=v'.ownBlock:=fun j hj hn e=>by
  rcases hw with hw|hw
  ·exact hn (e.trans hw)
  ·rw[hw] at e;injection e with e;simp at e;omega
 refine⟨by rw[List.length_append,List.map_append];exact hown,⟨xs,qcd h1 (fun j e _ hj=>qbl hg hj (fun e2=>h.apart j e2.symm e)),fun i d hd => ?_⟩,fun g e1 e2 => ?_⟩
 ·obtain⟨a,e1,e2⟩:=h2 i d hd
  exact⟨a,e1,e2.same (fun j hj=>⟨hj.1,by have:=hj.2.1;omega,hj.2.2.1,hne j hj.2.1 hj.2.2.2⟩) (fun j hj=>qbl hg hj.2.1 hj.2.2.2)⟩
 ·rcases hw with hw|hw
  ·exact h.apart g (hw.symm.trans e1) e2
  ·have:=qb9 h1 e2
   rw[hw] at e1;injection e1 with e1;simp at e1;omega
theorem qe5.kid {k:Nat}{V w5:World}{b L:Nat}{kv u v':Value}{kl:List (List UInt8)}{ds:List (DataW Unit)}{d:DataW Unit}{a:Array Value}{xs:List Value}{o:Obj}(h:qe5 k V b kv u kl ds)(h1:V.ownsRow b 93 5 u ds.length xs)(h2:∀(i:Nat) (d:DataW Unit),ds[i]? = some d→∃a,qh2 xs i a∧qbD k V (fun j=>b≤j∧j<V.heap.size∧some j≠u.ownBlock∧¬some j=kv.ownBlock) (.agg a) d)(hkid:qbD k V (fun j=>L≤j∧j<V.heap.size) (.agg a) d)(hL:∀g,u.ownBlock=some g→g<L)(hK:∀g,kv.ownBlock=some g→g<L)(hb:b≤L)(ha:a.size=5)(hown:w5.ownsRow b 93 5 v' (ds.length+1) (xs++a.toList))(hg:(V.alloc o).grownBy w5 u.ownBlock)(hw:v'.ownBlock=u.ownBlock∨v'.ownBlock=some (V.alloc o).heap.size):qe5 k w5 b kv v' kl (ds++[d]):=by
 refine⟨qcd h.keys (fun j e _ hj=>qbl hg hj (fun e2=>h.apart j e e2.symm)),qbh.push (L:=L) h1 h2 hkid hL hb (fun j hj e=>by have:=hK j e.symm;omega) ha hown hg hw,fun g e1 e2 => ?_⟩
 rcases hw with hw|hw
 ·exact h.apart g e1 (hw.symm.trans e2)
 ·have:=qb9 h.keys e1
  rw[hw] at e2;injection e2 with e2;simp at e2;omega
end
end Go.Proofs.YtllcbnfmihfaaaaGreatDoor
