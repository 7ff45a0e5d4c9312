import Derived.Test.YtllcbnfmihfaaaaGreatDoorTq42
set_option maxRecDepth 100000
set_option maxHeartbeats 8000000
namespace Go.Proofs.YtllcbnfmihfaaaaGreatDoor
open Go.Proofs.Tryz
variable {V:World}{p r:Nat}{rd:Nat→Except (Int×Int) (DataW Unit×Nat)}{bs l:List UInt8}{lim:Int}{ks:List (List UInt8)}{hd:Nat→Nat×Nat×Nat}
section
open Go.RowKit Go.Lib
def q4H (xs:List Value)(n g:Nat):Prop:=∃i v,n≤i∧i<n+4∧xs[i]? = some v∧v.ownBlock=some g
theorem qyt {W:World}{X:Nat→Prop}(h:Frm W V X){a:Addr}(hb:a.block<W.heap.size)(hx:¬X a.block):V.cell? a=W.cell? a:=World.cell?_of_block (h.block _ hb hx)
theorem q3X {g k:Nat}{cur:Array Value}{t:TypeId}{c:Value}(hg:V.heap[g]? = some (.cells cur t))(hk:k<cur.size):qz1 V (V.setCell ⟨g,k,none⟩ c) c:=by
 refine⟨by simp[World.setCell],fun g' cur' t' fr' h => ?_⟩;by_cases e:g'=g
 ·subst e;rw[hg] at h;injection h with h;injection h with h1 h2 h3;subst h1;subst h2;subst h3;refine⟨cur.setIfInBounds k c,by rw[heap_setCell_same _ _ _ _ _ _ hg],by simp,fun j => ?_⟩;rw[Array.getElem?_setIfInBounds];by_cases ej:k=j
  ·rw[if_pos ej,if_pos (by omega)];exact .inr ⟨by omega,rfl⟩
  rw[if_neg ej];exact .inl rfl
 exact⟨cur',(heap_setCell_other V _ _ _ (by simpa using e)).trans h,rfl,fun _=>.inl rfl⟩
theorem q05 (W:World)(B:Nat)(la:Option Addr)(N lcap:Nat)(xs:List Value)(mc:Nat→Nat)(h:q48 W B la N lcap xs mc)(n:Nat)(hn:n+4≤N)(hN:N≤1000000000)(hbig:∀(i:Nat) (a:Option Addr) (n c:Nat),xs[i]? = some (Value.slice a n c)→n≤1000000000)(hdis:∀(i:Nat) (v:Value) (g:Nat),xs[i]? = some v→v.ownBlock=some g→g≠B∧∀gr,la=some ⟨gr,0,none⟩→g≠gr)(c:Nat):Calls prog 62 #[.pointer (some ⟨B,0,none⟩),.int .i64 n,.int .u8 c] W fun e W'=>e=.returned (.tuple #[])∧qz1 W W' (.int .u8 c)∧Frm W W' (q4H xs n)∧∀(i:Nat) (v:Value),n≤i→i<n+4→xs[i]? = some v→q1c W' v (.int .u8 c) 0:=by
 have HL:=qaa h;have HBG:=qaa hbig;have HD:=qaa hdis;have hw2:=h.w2;have hBl:=block_lt_of_cell hw2;have HNB:Hid (¬q4H xs n B):=fun ⟨i,v,_,_,h1,h2⟩=>(hdis i v B h1 h2).1 rfl;go_enter func62,ntmps62;go_wp2
 go_loopg [6] 4 (fun g z wr=>∃i:Nat,z=.int .i64 i∧Hid (i+g=n+4∧n≤i)∧Hid (Frm W wr (q4H xs n))∧Hid (qz1 W wr (.int .u8 c))∧Hid (∀(i':Nat) (v:Value),n≤i'→i'<i→xs[i']? = some v→q1c wr v (.int .u8 c) 0))
 case atStart=>exact⟨n,rfl,⟨rfl,Nat.le_refl _⟩,Frm.refl _ _,qyV (Nat.le_refl _) (fun _ _=>rfl),fun i' v h1 h2=>by omega⟩
 case round =>
  obtain⟨i,rfl,hg,HF,HM,HA⟩:=hrel
  cases gk with
  |zero =>
   have hge:¬(i:Int)<(n:Int)+4:=by have:=hg.out;omega
   have HA2:Hid (∀(i:Nat) (v:Value),n≤i→i<n+4→xs[i]? = some v→q1c wr v (.int .u8 c) 0):=fun i' v h1 h2 h3=>HA.out i' v h1 (by have:=hg.out;omega) h3;go_wp2;go_end0;exact⟨rfl,HM.out,HF.out,HA2.out⟩
  |succ g =>
   have hlt:(i:Int)<(n:Int)+4:=by have:=hg.out;omega
   have hiN:(i:Int)<(N:Int):=by omega
   have hin:n≤i∧i<n+4:=by have:=hg.out;omega
   obtain⟨gr,a,m,cap,rfl,hr1,hx,hby⟩:=HL.out.at_ (i:=i) (by omega);have hmb:=HBG.out i a m cap hx;have HXI:=qaa hx;have hrl:=block_lt_of_cell hr1;have HNR:Hid (¬q4H xs n gr):=fun ⟨i,v,_,_,h1,h2⟩=>(HD.out i v gr h1 h2).2 gr rfl rfl;obtain⟨_,_,_,eab,hab⟩:=HL.out.all i _ hx;cases eab;have HAB:Hid (m=0∨∃g cur,a=some ⟨g,0,none⟩∧W.heap[g]? = some (.cells cur 5 (0,0))∧m≤cur.size):=hab.imp_right fun ⟨g,cur,h1,_,h2,h3,_⟩=>⟨g,cur,h1,h2,h3⟩
   have w2:=(qyt HF.out hBl HNB.out).trans hw2;have r1:=(qyt HF.out hrl HNR.out).trans hr1;go_wp2
   go_loopg [7] m (fun gj zj wr=>∃j:Nat,zj=.int .i64 j∧Hid (j+gj=m)∧Hid (Frm W wr (q4H xs n))∧Hid (qz1 W wr (.int .u8 c))∧Hid (∀(i':Nat) (v:Value),n≤i'→i'<i→xs[i']? = some v→q1c wr v (.int .u8 c) 0)∧Hid (j=0∨∃g cur,a=some ⟨g,0,none⟩∧wr.heap[g]? = some (.cells cur 5 (0,0))∧m≤cur.size∧∀j',j'<j→cur[j']? = some (.int .u8 c)))
   case atStart=>exact⟨0,rfl,by show _=_;omega,HF,HM,HA,.inl rfl⟩
   case round =>
    obtain⟨j,rfl,hgj,HF,HM,HA,HJ⟩:=hrel;have w2:=(qyt HF.out hBl HNB.out).trans hw2;have r1:=(qyt HF.out hrl HNR.out).trans hr1
    cases gk with
    |zero =>
     have hgej:¬(j:Int)<(m:Int):=by have:=hgj.out;omega
     have HA2:Hid (∀(i':Nat) (v:Value),n≤i'→i'<i+1→xs[i']? = some v→q1c wr v (.int .u8 c) 0):=fun i' v h1 h2 h3=>by
      by_cases e:i'=i
      ·subst e;rw[HXI.out] at h3;injection h3 with h3;subst h3;refine⟨a,m,cap,rfl,?_⟩;rcases HJ.out with h|⟨g,cur,h4,h5,h6,h7⟩
       ·exact .inl (by have:=hgj.out;omega)
       exact .inr ⟨g,cur,h4,Nat.zero_le _,h5,h6,fun j' hj'=>h7 j' (by have:=hgj.out;omega)⟩
      exact HA.out i' v h1 (by omega) h3
     go_wp2;go_roundg g
     case measure=>omega
     case rel=>exact⟨i+1,by go_num,⟨by have:=hg.out;omega,by omega⟩,HF,HM,HA2⟩
    |succ gj =>
     have hltj:(j:Int)<(m:Int):=by have:=hgj.out;omega
     obtain⟨gb,cur,rfl,hcb,hmc,hcj⟩:∃g cur,a=some ⟨g,0,none⟩∧wr.heap[g]? = some (.cells cur 5 (0,0))∧m≤cur.size∧∀j',j'<j→cur[j']? = some (.int .u8 c):=by
      rcases HAB.out with h|⟨g,cur,h1,h2,h3⟩
      ·omega
      subst h1;rcases HJ.out with h|⟨g',cur',h4,h5,h6,h7⟩
      ·obtain⟨cur',e1,e2,_⟩:=HM.out.2 g cur _ _ h2;exact⟨g,cur',rfl,e1,by omega,fun j' hj'=>by omega⟩
      exact⟨g',cur',h4,h5,h6,h7⟩
     have HC:=qaa hcb;obtain⟨v0,hv0⟩:∃v,cur[j]? = some v:=⟨_,Array.getElem?_eq_getElem (by omega)⟩
     have k0:=(qab HC.out j).trans hv0;have f0:=frozen_of_row wr gb j _ _ HC.out;have HXB:Hid (q4H xs n gb):=⟨i,_,hin.1,hin.2,HXI.out,rfl⟩
     have HF2:Hid (Frm W (wr.setCell ⟨gb,j,none⟩ (.int .u8 c)) (q4H xs n)):=HF.out.next (q0W HXB.out)
     have hms:=q3X (c:=.int .u8 c) HC.out (k:=j) (by omega);have HM2:=qaa (HM.out.trans hms);have HA2:Hid (∀(i':Nat) (v:Value),n≤i'→i'<i→xs[i']? = some v→q1c (wr.setCell ⟨gb,j,none⟩ (.int .u8 c)) v (.int .u8 c) 0):=fun i' v h1 h2 h3=>(HA.out i' v h1 h2 h3).marks hms;have HJ2:Hid (j+1=0∨∃g cur,some (⟨gb,0,none⟩:Addr)=some ⟨g,0,none⟩∧(wr.setCell ⟨gb,j,none⟩ (.int .u8 c)).heap[g]? = some (.cells cur 5 (0,0))∧m≤cur.size∧∀j',j'<j+1→cur[j']? = some (.int .u8 c)):=by
      refine .inr ⟨gb,cur.setIfInBounds j (.int .u8 c),rfl,by rw[heap_setCell_same _ _ _ _ _ _ HC.out],by simpa using hmc,fun j' hj' => ?_⟩;rw[Array.getElem?_setIfInBounds];by_cases e:j=j'
      ·rw[if_pos e,if_pos (by omega)]
      rw[if_neg e];exact hcj j' (by omega)
     go_wp2;go_roundg gj
     case measure=>omega
     case rel=>exact⟨j+1,by go_num,by show _=_;have:=hgj.out;omega,HF2,HM2,HA2,HJ2⟩
theorem qsD {α:Type}(f:α→List UInt8)(l:List α)(h:∀a,a∈l→1≤(f a).length):l.length≤(qc5 f l).length:=by
 cases l with
 |nil=>simp
 |cons a l =>
  have h1:=h a (List.mem_cons_self ..);have h2:=qeE (fun e=>44::f e) l fun b _=>by simp
  unfold qc5;rw[List.length_append,List.length_cons];omega
theorem qv6 (n:Nat):1≤(decDigits n).length:=by
 unfold decDigits;split<;>simp
theorem quI (z:Int):1≤(Lib.itoa z).length:=by
 unfold itoa;split
 ·simp
 exact qv6 _
theorem qph {F:Nat→Prop}:∀{k:Nat} {v:Value} {d:DataW Unit},qai k V F v d→1≤(qbd k d).length
 |0,_,_,h=>h.elim
 |k+1,v,d,h=>by
  unfold qai at h;split at h
  ·simp[qbd]
  ·rename_i b
   cases b<;>simp[qbd]
  ·exact quI _
  ·exact qkp _
  ·simp[qbd]
  ·simp[qbd]
  ·simp[qbd]
  exact h.elim
theorem qiS:∀(k:Nat) (W:World) (base:Nat) (F:Nat→Prop) (x:Value) (d:DataW Unit),(∀j,F j→j<base)→qiG base W→qai k W F x d→qef W base x (qbd k d)
 |0,_,_,_,_,_,_,_,h=>h.elim
 |k+1,W0,base,F,x,d,hF,hT0,h0=>by
  intro W v bs hW hO hl;have h:=h0.same (fun _ h=>h) (fun j hj=>hW.block j (hF j hj));have hT:qiG base W:=Lib.TabBelow.on hT0 hW;have hl1:bs.length≤999999999:=by omega
  have inner:∀y d',qai k W F y d'→qef W base y (qbd k d'):=fun y d' hy=>qiS k W base F y d' hF hT hy;unfold qai at h;split at h
  ·subst h;exact qk9 W base v bs hl1 hO
  ·rename_i b
   subst h;cases b
   ·exact qf9 W base v bs hl1 hO
   exact qgO W base v bs hl1 hO
  ·obtain⟨rfl,h1,h2⟩:=h;exact qtX W base v bs _ h1 h2 hl1 hO hT
  ·rename_i l
   subst h;exact qtB W base v bs l hl hO
  ·rename_i l
   obtain⟨u,rfl,hr⟩:=h;obtain⟨q,n,c,rfl⟩:∃q n c,u=.slice q n c:=by
    rcases hr.2 with ⟨e,e2⟩|⟨g,cap,cur,e,_⟩
    ·exact⟨_,_,_,e⟩
    exact⟨_,_,_,e⟩
   exact qoz W base v q n c bs hl1 hO
  ·rename_i ds
   obtain⟨u,xs,rfl,hr,ha⟩:=h;have hxl:xs.length=ds.length:=by have:=hr.1;omega
   have at_:∀i,i<ds.length→∃x d',xs[i]? = some x∧ds[i]? = some d'∧qai k W F x d':=fun i hi =>
    ⟨_,_,List.getElem?_eq_getElem (by omega),List.getElem?_eq_getElem hi,ha i _ _ (List.getElem?_eq_getElem (by omega)) (List.getElem?_eq_getElem hi)⟩
   have hg:=qsD (qbd k) ds fun d' hd'=>by
    obtain⟨i,hi,rfl⟩:=List.getElem_of_mem hd';obtain⟨x,d2,h1,h2,h3⟩:=at_ i hi;rw[List.getElem?_eq_getElem hi] at h2;injection h2 with h2;rw[h2];exact qph h3
   have e:(qbd (k+1) (.agg ds)).length=1+(qc5 (qbd k) ds).length+1:=by simp[qbd];omega
   obtain⟨q,cap,rfl⟩:∃q cap,u=.slice q ds.length cap:=by
    rcases hr.2 with ⟨e,e2⟩|⟨g,cap,cur,e,_⟩
    ·exact⟨none,0,by rw[e,e2]⟩
    exact⟨_,_,e⟩
   have hc:=qry (qbd k) W base v q cap F hF bs ds xs (by omega) (by omega) hr (fun i x d' h1 h2=>inner x d' (ha i x d' h1 h2)) (fun i x hx=>by
    obtain⟨x2,d',h1,h2,h3⟩:=at_ i (by have:=ltL hx;omega);rw[hx] at h1;injection h1 with h1;rw[h1];exact h3.iface) hO
   have e2:((bs++[91])++qc5 (qbd k) ds)++[93]=bs++qbd (k+1) (.agg ds):=by simp[qbd]
   rw[e2] at hc;exact qsR W base v q ds.length cap _ hO.2.2 hc
  ·rename_i es
   obtain⟨u,xs,rfl,hr,ha⟩:=h;have hg:=qsD (qfn (qbd k)) es fun d' _=>by simp[qfn];omega
   have e:(qbd (k+1) (.map es)).length=1+(qc5 (qfn (qbd k)) es).length+1:=by simp[qbd];omega
   obtain⟨q,cap,rfl⟩:∃q cap,u=.slice q es.length cap:=by
    rcases hr.2 with ⟨e,e2⟩|⟨g,cap,cur,e,_⟩
    ·exact⟨none,0,by rw[e,e2]⟩
    exact⟨_,_,e⟩
   have hc:=qtV (qbd k) W base v q cap F hF bs es xs (by omega) (by omega) hr (fun i key d' h1=>by
    obtain⟨l,x,e1,e2,e3,e4⟩:=ha i key d' h1;obtain⟨t,y,rfl⟩:=e4.iface;exact⟨l,t,y,e1,e2,e3,inner _ d' e4⟩) hO
   have e2:((bs++[123])++qc5 (qfn (qbd k)) es)++[125]=bs++qbd (k+1) (.map es):=by simp[qbd]
   rw[e2] at hc;exact qvk W base v q es.length cap _ hO.2.2 hc
  exact h.elim
theorem qhK (k:Nat)(W:World)(F:Nat→Prop)(x:Value)(d:DataW Unit)(hF:∀j,F j→j<W.heap.size)(ht:qiG W.heap.size W)(h:qai k W F x d)(hl:(qbd k d).length≤999999999):Calls prog 67 #[.int .i64 1,x] W fun e W'=>∃v',e=.returned v'∧Own W' W.heap.size v' (qbd k d)∧Below W.heap.size W W':=by
 have cA:=qiS k W W.heap.size F x d hF ht h W _ [] bwR (qip W) (by simpa using hl);obtain⟨t,y,rfl⟩:=h.iface;go_enter func67,ntmps67
 go_wp2_with (first
  |(go_at_call 109;refine cA.mono ?_;rintro e w6 ⟨v6,rfl,h6,hB6⟩;obtain⟨h61,h62,a6,n6,c6,rfl⟩:=h6))
 go_ret;exact⟨_,rfl,⟨h61,h62,_,_,_,rfl⟩,hB6⟩
def RdG (rd:Nat→Except (Int×Int) (DataW Unit×Nat)):Prop:=∀p d q,rd p=.ok (d,q)→TgT p d q∧p<q
theorem q6l (p0:Nat)(a:List (DataW Unit))(p q:Nat)(h:p≤q)(hI:LiI p0 a p):LiI p0 a q:=⟨fun k=>by have:=hI.1 k;omega,hI.2⟩
theorem q6n (p0:Nat)(a:List (Lit×DataW Unit))(p q:Nat)(h:p≤q)(hI:EnI p0 a p):EnI p0 a q:=⟨fun k=>by have:=hI.1 k;omega,hI.2⟩
theorem q6g (hr:RdG rd)(p0:Nat)(a:List (DataW Unit))(p:Nat)(a':List (DataW Unit))(q:Nat)(hI:LiI p0 a p)(h:liJ rd a p=.ok (a',q)):LiI p0 a' q∧p≤q:=by
 unfold liJ at h;split at h
 ·cases h
 rename_i d r e
 injection h with h;injection h with e1 e2;subst e1 e2;obtain⟨h1,h2⟩:=hr _ _ _ e;exact⟨hI.snoc (Nat.le_refl _) h1,by omega⟩
theorem q4C (h:qmo bs lim ks p=.ok (l,r)):qzO l∧l.length+4*p+8≤4*r:=by
 unfold qmo at h;split at h
 ·cases h
 rename_i q e
 have h1:=qcb bs lim _ _ _ _ e;split at h
 ·cases h
 rename_i l' r' e2
 split at h
 ·cases h
 injection h with h;injection h with e3 e4;subst e3 e4;have h2:=qzL bs lim _ _ [] 0 _ _ (Nat.le_refl 0) qzO.nil rfl e2;simp only[List.length_singleton,List.length_nil] at h1 h2;exact⟨h2.1,by omega⟩
theorem q5Z (hr:RdG rd)(p0:Nat)(a:List (List UInt8)×List (Lit×DataW Unit))(p:Nat)(a':List (List UInt8)×List (Lit×DataW Unit))(q:Nat)(hI:EnI p0 a.2 p)(h:enJ bs lim rd a p=.ok (a',q)):EnI p0 a'.2 q∧p≤q:=by
 unfold enJ at h;split at h
 ·cases h
 rename_i l p1 e1
 obtain⟨h1,h2⟩:=q4C e1;split at h
 ·cases h
 rename_i p2 e2
 have h3:=qcm bs lim _ _ _ _ e2;split at h
 ·cases h
 rename_i p3 e3
 have h4:=qcb bs lim _ _ _ _ e3;split at h
 ·cases h
 rename_i p4 e4
 have h5:=qcm bs lim _ _ _ _ e4;split at h
 ·cases h
 rename_i d p5 e5
 injection h with h;injection h with e6 e7;subst e6 e7;obtain⟨h6,h7⟩:=hr _ _ _ e5;exact⟨hI.snoc (p1:=p1) (p2:=p4) h1 (by omega) (by omega) h6,by omega⟩
theorem q4D {depth:Int}{wi:Nat}{c:UInt8}{d:DataW Unit}{q:Nat}(hr:RdG rd)(h:qqi bs lim depth wi rd (fun c p=>qg4 ⟨none,bs,0,0,lim,p,0⟩ c) c (p+1)=.ok (d,q)):TgT p d q∧p<q:=by
 have word:∀{l:List UInt8} {x:DataW Unit},(∀k,szF (k+1) x=200)→(∀k,TxV k x)→(match qaT bs lim l (p+1) with|.error e=>(.error e:Except (Int×Int) (DataW Unit×Nat))|.ok (_,q)=>.ok (x,q))=.ok (d,q)→TgT p d q∧p<q:=fun {l x} h1 h2 h=>by
  split at h
  ·cases h
  rename_i r e
  have h3:=qcb bs lim _ _ _ _ e;injection h with h;injection h with e1 e2;subst e1 e2;exact⟨qyQ h1 h2 (by omega),by omega⟩
 unfold qqi at h;split at h
 ·exact word (fun _=>rfl) q50 h
 split at h
 ·exact word (fun _=>rfl) (fun k=>q0Q k _) h
 split at h
 ·exact word (fun _=>rfl) (fun k=>q0Q k _) h
 split at h
 ·split at h
  ·cases h
  rename_i l r e
  injection h with h;injection h with e1 e2;subst e1 e2;have h2:=qzL bs lim _ _ [] 0 _ _ (Nat.le_refl 0) qzO.nil rfl e;simp only[List.length_nil] at h2;exact⟨q3V h2.1 (by omega),by omega⟩
 split at h
 ·split at h
  ·cases h
  split at h
  ·cases h
  rename_i ds r e
  injection h with h;injection h with e1 e2;subst e1 e2;obtain⟨h1,h2⟩:=q29 bs lim _ 93 (LiI (p+1)) (fun a p q=>q6l _ a p q) (fun a p a' q=>q6g hr _ a p a' q) _ _ _ _ (q5u _) e;exact⟨q47 (Nat.lt_succ_self p) h2 h1,by omega⟩
 split at h
 ·split at h
  ·cases h
  split at h
  ·cases h
  rename_i es r e
  injection h with h;injection h with e1 e2;subst e1 e2;obtain⟨h1,h2⟩:=q29 bs lim _ 125 (fun a=>EnI (p+1) a.2) (fun a p q=>q6n _ a.2 p q) (fun a p a' q=>q5Z hr _ a p a' q) _ _ _ _ (q5q _) e;exact⟨q5C (Nat.lt_succ_self p) h2 h1,by omega⟩
 split at h
 ·rename_i hc
  split at h
  ·cases h
  rename_i z r e
  injection h with h;injection h with e1 e2;subst e1 e2;have h2:p+1≤_:=(qhv hc e).2;exact⟨qyQ (fun _=>rfl) (q2W (qhv hc e).1) (by omega),by omega⟩
 cases h
theorem q4x (bs:List UInt8)(lim depth:Int):∀(g wi:Nat),RdG (thJ bs lim depth (fun c p=>qg4 ⟨none,bs,0,0,lim,p,0⟩ c) g wi)
 |0,_,_,_,_,h=>by cases h
 |g+1,wi,p,d,q,h=>by
  rw[thJ] at h;split at h
  ·cases h
  split at h
  ·cases h
  exact q4D (q4x bs lim depth g (wi+1)) h
theorem q02 (hr:RdG rd)(p0:Nat):∀(k p:Nat) (acc ds:List (DataW Unit)) (q:Nat),LiI p0 acc p→qb9 rd k p acc=.ok (ds,q)→LiI p0 ds q∧p≤q
 |0,p,acc,ds,q,hI,h=>by
  rw[qb9] at h;injection h with h;injection h with e1 e2;subst e1 e2;exact⟨hI,Nat.le_refl _⟩
 |k+1,p,acc,ds,q,hI,h=>by
  rw[qb9] at h;split at h
  ·cases h
  rename_i d r e
  obtain⟨h1,h2⟩:=hr _ _ _ e;obtain⟨h3,h4⟩:=q02 hr p0 k r _ ds q (hI.snoc (Nat.le_refl _) h1) h;exact⟨h3,by omega⟩
theorem q4E (h:qfr hd bs lim ks p=.ok (l,r)):qzO l∧l.length+p+1≤r:=by
 unfold qfr at h;split at h
 ·cases h
 split at h
 ·cases h
 split at h
 ·split at h
  ·cases h
  rename_i x q e
  have h1:=qhP bs lim _ _ _ _ _ e;split at h
  ·cases h
  rename_i l' r' e2
  split at h
  ·cases h
  injection h with h;injection h with e3 e4;subst e3 e4;have h2:=q0G bs lim _ _ [] 0 _ _ (Nat.le_refl 0) qzO.nil rfl e2;simp only[List.length_nil] at h2;exact⟨h2.1,by omega⟩
 cases h
theorem qz6 (hr:RdG rd)(p0:Nat):∀(k p:Nat) (ks:List (List UInt8)) (acc es:List (Lit×DataW Unit)) (q:Nat),EnI p0 acc p→qaI (qfr hd bs lim) rd k p ks acc=.ok (es,q)→EnI p0 es q∧p≤q
 |0,p,ks,acc,ds,q,hI,h=>by
  rw[qaI] at h;injection h with h;injection h with e1 e2;subst e1 e2;exact⟨hI,Nat.le_refl _⟩
 |k+1,p,ks,acc,ds,q,hI,h=>by
  rw[qaI] at h;split at h
  ·cases h
  rename_i l p1 e1
  obtain⟨k1,k2⟩:=q4E e1;split at h
  ·cases h
  rename_i d r e
  obtain⟨h1,h2⟩:=hr _ _ _ e;obtain⟨h3,h4⟩:=qz6 hr p0 k r _ _ ds q (hI.snoc (p1:=p1) (p2:=p1) k1 (by omega) (Nat.le_refl _) h1) h;exact⟨h3,by omega⟩
theorem q2K (bs:List UInt8)(lim:Int):∀(k p:Nat) (acc l:List UInt8) (q:Nat),qhb bs lim k p acc=.ok (l,q)→l.length+p=acc.length+q
 |0,p,acc,l,q,h=>by
  rw[qhb] at h;injection h with h;injection h with e1 e2;subst e1 e2;rfl
 |k+1,p,acc,l,q,h=>by
  rw[qhb] at h;split at h
  ·cases h
  split at h
  ·cases h
  have ih:=q2K bs lim k (p+1) _ l q h;rw[List.length_append] at ih;simp only[List.length_singleton] at ih;omega
theorem q1K (hd:Nat→Nat×Nat×Nat)(bs:List UInt8)(lim depth:Int):∀(g wi:Nat),RdG (thB hd bs lim depth g wi)
 |0,_,_,_,_,h=>by cases h
 |g+1,wi,p,d,q,h=>by
  have hpq:=qnr hd bs lim depth (g+1) wi p d q h;have ih:=q1K hd bs lim depth g (wi+1);refine⟨?_,hpq⟩;rw[thB] at h;split at h
  ·cases h
  split at h
  ·cases h
  split at h
  ·cases h
  split at h
  ·cases h
  split at h
  ·cases h
  rename_i x r e
  have h1:=qhP bs lim _ _ _ _ _ e;unfold qjF at h;split at h
  ·injection h with h;injection h with e1 e2;subst e1 e2;exact qyQ (fun _=>rfl) (fun k=>q0Q k _) hpq
  ·injection h with h;injection h with e1 e2;subst e1 e2;exact qyQ (fun _=>rfl) (fun k=>q0Q k _) hpq
  ·split at h
   ·cases h
   rename_i z e2
   injection h with h;injection h with e3 e4;subst e3 e4;exact qyQ (fun _=>rfl) (q2W (qqB e2)) hpq
  ·split at h
   ·cases h
   rename_i z e2
   injection h with h;injection h with e3 e4;subst e3 e4;exact qyQ (fun _=>rfl) (q2W (qqB e2)) hpq
  ·split at h
   ·cases h
   rename_i z e2
   injection h with h;injection h with e3 e4;subst e3 e4;exact qyQ (fun _=>rfl) (q2W (qqB e2)) hpq
  ·split at h
   ·cases h
   rename_i l s e2
   injection h with h;injection h with e3 e4;subst e3 e4;have h2:=q2K bs lim _ _ _ _ _ e2;simp only[List.length_nil] at h2;exact⟨qrF (by omega),fun k=>q4B k _⟩
  ·split at h
   ·cases h
   rename_i l s e2
   injection h with h;injection h with e3 e4;subst e3 e4;have h2:=q0G bs lim _ _ [] 0 _ _ (Nat.le_refl 0) qzO.nil rfl e2;simp only[List.length_nil] at h2;exact q3V h2.1 (by omega)
  ·split at h
   ·cases h
   rename_i l s e2
   injection h with h;injection h with e3 e4;subst e3 e4;obtain⟨h2,h3⟩:=q02 ih r x r [] _ _ (q5u _) e2;exact q47 (by omega) h3 h2
  ·split at h
   ·cases h
   rename_i l s e2
   injection h with h;injection h with e3 e4;subst e3 e4;obtain⟨h2,h3⟩:=qz6 ih r x r [] [] _ _ (q5q _) e2;exact q5C (by omega) h3 h2
  injection h with h;injection h with e1 e2;subst e1 e2;exact qyQ (fun _=>rfl) q50 hpq
theorem q6o (fm:Int)(bs:List UInt8)(d lim:Int):RdG (thO fm bs d lim):=by
 intro p y q hy;unfold thO at hy;split at hy
 ·exact q4x bs lim d _ _ p y q hy
 split at hy
 ·exact q1K _ bs lim d _ _ p y q hy
 exact q1K _ bs lim d _ _ p y q hy
theorem q52 {α:Type}(f g:α→List UInt8)(l:List α)(h:∀x∈l,f x=g x):qc5 f l=qc5 g l:=by
 cases l with
 |nil=>rfl
 |cons a l =>
  show f a++_=g a++_;rw[h a (List.mem_cons_self ..)];congr 1
  induction l with
  |nil=>rfl
  |cons b l ih =>
   rw[List.flatMap_cons,List.flatMap_cons,h b (by simp),ih (fun x hx=>h x (by simp at hx ⊢;rcases hx with hx|hx<;>simp[hx]))]
theorem q0f:∀(k:Nat) (d:DataW Unit),TxV k d→qbd k d=qza k d
 |0,_,_=>rfl
 |k+1,d,h=>by
  unfold qbd qza;split
  ·rfl
  ·rfl
  ·exact q5D h
  ·rename_i ds
   have h2:∀d∈ds,TxV k d:=h;rw[q52 _ _ ds fun d hd=>q0f k d (h2 d hd)]
  ·rename_i es
   have h2:∀e∈es,qzO (qb7 e.1)∧TxV k e.2:=h;rw[q52 _ _ es fun e he=>show qfn (qbd k) e=q5g (qza k) e by unfold qfn q5g;rw[q5D (h2 e he).1,q0f k e.2 (h2 e he).2]]
  split<;>first|rfl|(exfalso;simp_all)
def wrO (fm:Int)(k:Nat)(d:DataW Unit):List UInt8:=if fm=1 then qbd k d else if fm=2 then qaU k d else qcV k d
theorem qhN (x:Nat):∀k,(beF x k).length=k
 |0=>rfl
 |k+1=>by unfold beF;rw[List.length_cons,qhN x k]
theorem qgh (s x:Nat):(qaj s x).length≤9:=by
 unfold qaj
 repeat' split
 all_goals simp[qhN]
theorem qcZ (x:Nat):(qb8 x).length≤9∧(qbB x).length≤9∧(qb2 x).length≤9∧(qa2 x).length≤9∧(qbf x).length≤9:=by
 unfold qb8 qbB qb2 qa2 qbf;refine⟨?_,?_,?_,?_,?_⟩
 all_goals repeat' split
 all_goals simp[qhN]
theorem qo6 (z:Int):(qid z).length≤9:=by
 unfold qid;split
 ·unfold qbo
  repeat' split
  all_goals simp[qhN]
 exact(qcZ _).2.2.2.2
theorem qwC (z:Int):(qhB z).length≤9:=by
 unfold qhB;split<;>exact qgh _ _
theorem qhD {α:Type}(f:α→List UInt8)(m:α→Nat):∀(l:List α),(∀a,a∈l→(f a).length≤m a)→(l.flatMap f).length≤(l.map m).sum
 |[],_=>Nat.le_refl _
 |a::l,h=>by
  have h1:=h a (List.mem_cons_self ..);have h2:=qhD f m l fun b hb=>h b (List.mem_cons_of_mem _ hb);rw[List.flatMap_cons,List.length_append,List.map_cons,List.sum_cons];omega
theorem qi3 (hB hL hM hT:Nat→List UInt8)(nt:Bool→List UInt8)(no:List UInt8)(nm:Int→List UInt8)(h:∀x,(hB x).length≤9∧(hL x).length≤9∧(hM x).length≤9∧(hT x).length≤9)(h1:∀b,(nt b).length≤9)(h2:no.length≤9)(h3:∀z,(nm z).length≤9):∀(k:Nat) (d:DataW Unit),(wrF hB hL hM hT nt no nm k d).length≤szF k d
 |0,_=>Nat.le_refl _
 |k+1,d=>by
  unfold wrF;split
  ·show _≤200;omega
  ·show _≤200;have:=h1 ‹Bool›;omega
  ·show _≤200;have:=h3 ‹Int›;omega
  ·next l=>show _≤200+6*l.length;have:=h l.length;rw[List.length_append];omega
  ·next l=>show _≤200+6*l.length;have:=h l.length;rw[List.length_append];omega
  ·next ds =>
   show _≤200+(ds.map fun d=>30+szF k d).sum;have h4:=h ds.length;have h5:=qhD (wrF hB hL hM hT nt no nm k) (fun d=>30+szF k d) ds (fun d _=>Nat.le_trans (qi3 hB hL hM hT nt no nm h h1 h2 h3 k d) (Nat.le_add_left _ _));rw[List.length_append];omega
  ·next es =>
   show _≤200+(es.map fun e=>100+6*(qb7 e.1).length+szF k e.2).sum;have h4:=h es.length;have h5:=qhD (fun e:Lit×DataW Unit=>(hT (qb7 e.1).length++qb7 e.1)++wrF hB hL hM hT nt no nm k e.2) (fun e=>100+6*(qb7 e.1).length+szF k e.2) es (fun e _=>by
    have h6:=qi3 hB hL hM hT nt no nm h h1 h2 h3 k e.2;have h7:=h (qb7 e.1).length;rw[List.length_append,List.length_append];omega)
   rw[List.length_append];omega
  exact Nat.zero_le _
theorem qjz (k:Nat)(d:DataW Unit):(qaU k d).length≤szF k d :=
 qi3 _ _ _ _ _ _ _ (fun x=>⟨qgh _ _,qgh _ _,qgh _ _,qgh _ _⟩) (fun b=>by unfold qs1;cases b<;>exact qgh _ _) (qgh _ _) qwC k d
theorem qpp (k:Nat)(d:DataW Unit):(qcV k d).length≤szF k d :=
 qi3 _ _ _ _ _ _ _ (fun x=>⟨(qcZ x).1,(qcZ x).2.1,(qcZ x).2.2.1,(qcZ x).2.2.2.1⟩) (fun b=>by unfold qsB;cases b<;>decide) (by decide) qo6 k d
theorem qnL {α:Type}(T:α→List UInt8)(m:α→Nat)(l:List α)(h:∀a,a∈l→(T a).length+1≤m a):(qc5 T l).length≤(l.map m).sum:=by
 cases l with
 |nil=>exact Nat.le_refl _
 |cons a l =>
  unfold qc5;have h1:=h a (List.mem_cons_self ..);have h2:=qhD (fun e=>44::T e) m l (fun b hb=>by have:=h b (List.mem_cons_of_mem _ hb);rw[List.length_cons];exact this);rw[List.length_append,List.map_cons,List.sum_cons];omega
theorem qtD (k:Nat)(d:DataW Unit):200≤szF (k+1) d:=by
 unfold szF;split<;>omega
theorem qyM:∀(k:Nat) (d:DataW Unit),TxV k d→(qza k d).length≤szF k d
 |0,_,_=>Nat.le_refl _
 |k+1,d,h=>by
  have hq:∀l,(qT l).length≤2+6*l.length:=fun l=>by
   have:=q4h l;unfold qT;simp only[List.length_append,List.length_cons,List.length_nil];omega
  unfold qza;split
  ·rename_i b
   show(bif b then _ else _:List UInt8).length≤200;cases b<;>decide
  ·rename_i z
   have h : -9223372036854775808≤z∧z≤9223372036854775807:=h;have:=itoa_length_le z h.1 h.2;show(itoa z).length≤200;omega
  ·rename_i l
   have:=hq l;show(qT l).length≤200+6*l.length;omega
  ·rename_i ds
   have h2:∀d∈ds,TxV k d:=h;show(([91]++qc5 (qza k) ds)++[93]).length≤200+sqL k ds;have h1:=qnL (qza k) (fun d=>30+szF k d) ds (fun d hd=>by have:=qyM k d (h2 d hd);omega);have e:sqL k ds=(ds.map fun d=>30+szF k d).sum:=rfl;simp only[List.length_append,List.length_cons,List.length_nil];omega
  ·rename_i es
   have h2:∀e∈es,qzO (qb7 e.1)∧TxV k e.2:=h;show(([123]++qc5 (q5g (qza k)) es)++[125]).length≤200+sqE k es;have h1:=qnL (q5g (qza k)) (fun e=>100+6*(qb7 e.1).length+szF k e.2) es (fun e he=>by
    have h3:=qyM k e.2 (h2 e he).2;have h4:=hq (qb7 e.1);unfold q5g;simp only[List.length_append,List.length_cons,List.length_nil];omega)
   have e:sqE k es=(es.map fun e=>100+6*(qb7 e.1).length+szF k e.2).sum:=rfl;simp only[List.length_append,List.length_cons,List.length_nil];omega
  have:=qtD k d;show 4≤_;omega
end
section
open Go.RowKit
def qvG (k:Nat)(W:World)(r:Except (Int×Int) (DataW Unit))(e:Ending)(W':World):Prop :=
 Below W.heap.size W W'∧match r with
 |.ok d=>∃t y,e=.returned (.tuple #[.iface t y,.int .i64 0,.int .i64 0])∧qai k W' (fun j=>W.heap.size≤j∧j<W'.heap.size) (.iface t y) d
 |.error (en,pl)=>e=.returned (.tuple #[.nilIface,.int .i64 en,.int .i64 pl])
theorem q3t (k:Nat)(W:World)(caps:Array Value)(r:Except (Int×Int) (DataW Unit))(cR:Calls prog 40 caps ((W.alloc (.cells #[.int .i64 0] 31)).alloc (.cells #[.int .i64 0] 3)) (qg6 k ((W.alloc (.cells #[.int .i64 0] 31)).alloc (.cells #[.int .i64 0] 3)) r)):Calls prog 39 #[.func (.func 40) #[] caps] W (qvG k W r):=by
 have hmf:∀(fn:Fn) (first cap:Array Value) (w:World),(Instr.makeFunc fn first cap).run prog w=.ok (.func fn first cap) w:=fun _ _ _ _=>rfl;have b1:Below W.heap.size W ((W.alloc (.cells #[.int .i64 0] 31)).alloc (.cells #[.int .i64 0] 3)):=(bwA).alloc (by simp) _;have k1:=Boxed.new W 31 (.int .i64 0);have k2:=Boxed.new (W.alloc (.cells #[.int .i64 0] 31)) 3 (.int .i64 0);have k1':=k1.alloc (.cells #[.int .i64 0] 3);rw[World.size_alloc] at k2;have HB:Hid (Below W.heap.size W ((W.alloc (.cells #[.int .i64 0] 31)).alloc (.cells #[.int .i64 0] 3))):=b1;have HK1:Hid (Boxed ((W.alloc (.cells #[.int .i64 0] 31)).alloc (.cells #[.int .i64 0] 3)) W.heap.size 31 (.int .i64 0)):=k1';have HK2:Hid (Boxed ((W.alloc (.cells #[.int .i64 0] 31)).alloc (.cells #[.int .i64 0] 3)) (W.heap.size+1) 3 (.int .i64 0)):=k2;clear b1 k1 k2 k1'
 go_enter_defers func39,ntmps39
 go_wp2_with fail
 refine cR.mono ?_;clear cR;rcases r with ⟨en,pl⟩|d
 ·rintro e w2 ⟨hB2,hF⟩;obtain rfl:=hF;have q1:Boxed w2 W.heap.size 31 (.int .i64 0):=(hB2.block _ HK1.out.lt).trans HK1.out;have q2:Boxed w2 (W.heap.size+1) 3 (.int .i64 0):=(hB2.block _ HK2.out.lt).trans HK2.out;have hBW:Below W.heap.size W w2:=HB.out.trans (hB2.mono HB.out.size);have HQ1:Hid (Boxed w2 W.heap.size 31 (.int .i64 0)):=q1;have HQ2:Hid (Boxed w2 (W.heap.size+1) 3 (.int .i64 0)):=q2;have HBW:Hid (Below W.heap.size W w2):=hBW;clear q1 q2 hBW hB2 HB HK1 HK2;go_wp2;refine leaves_cons (f:=64) (args:=#[.pointer (some ⟨W.heap.size,0,none⟩),.pointer (some ⟨W.heap.size+1,0,none⟩)]) (by simp) (by simp[go_sem]) ?_;refine(qmS W.heap.size (W.heap.size+1) en pl 0 0 w2 HQ1.out.cell HQ2.out.cell HQ1.out.frozen HQ2.out.frozen (by omega)).mono ?_;rintro e u' w3 ⟨rfl,rfl,c1,c2,c3⟩;have hfin:Below W.heap.size W w3:=HBW.out.trans (c3 _ (Nat.le_refl _) (by omega) HBW.out.size);simp[Leaves,settle,results,results39,go_sem,c1,c2,qvG,hfin]
 rintro e w2 ⟨hB2,hF2⟩;obtain⟨t,y,rfl,hD2⟩:=(show ∃t y,e=.returned (.iface t y)∧qai k w2 (fun j=>((W.alloc (.cells #[.int .i64 0] 31)).alloc (.cells #[.int .i64 0] 3)).heap.size≤j∧j<w2.heap.size) (.iface t y) d from hF2)
 have HD:Hid (qai k w2 (fun j=>W.heap.size+2≤j∧j<w2.heap.size) (.iface t y) d):=hD2.same (fun j hj=>⟨by have:=hj.1;simp only[World.size_alloc] at this;omega,hj.2⟩) (fun _ _=>rfl);clear hF2 hD2;have q1:Boxed w2 W.heap.size 31 (.int .i64 0):=(hB2.block _ HK1.out.lt).trans HK1.out;have q2:Boxed w2 (W.heap.size+1) 3 (.int .i64 0):=(hB2.block _ HK2.out.lt).trans HK2.out;have hBW:Below W.heap.size W w2:=HB.out.trans (hB2.mono HB.out.size);have HQ1:Hid (Boxed w2 W.heap.size 31 (.int .i64 0)):=q1;have HQ2:Hid (Boxed w2 (W.heap.size+1) 3 (.int .i64 0)):=q2;have HBW:Hid (Below W.heap.size W w2):=hBW;have c1:=q1.cell;have f1:=q1.frozen;have c2:=q2.cell;have f2:=q2.frozen;clear q1 q2 hBW hB2 HB HK1 HK2;go_wp2;have g1:=grownBy_setCell' w2 W.heap.size (.int .i64 0);have g2:=grownBy_setCell' (w2.setCell ⟨W.heap.size,0,none⟩ (.int .i64 0)) (W.heap.size+1) (.int .i64 0);have t1:=((HQ1.out.set (.int .i64 0)).kept g2 (by intro e;injection e with e;omega)).cell;have t2:=(Boxed.set (.int .i64 0) (HQ2.out.kept g1 (by intro e;injection e with e;omega))).cell;have hfin:Below W.heap.size W ((w2.setCell ⟨W.heap.size,0,none⟩ (.int .i64 0)).setCell ⟨W.heap.size+1,0,none⟩ (.int .i64 0)) :=
  HBW.out.trans ⟨rfl,rfl,rfl,by simp[World.setCell],fun k hk=>(heap_setCell_other _ _ _ _ (by simp;omega)).trans (heap_setCell_other w2 _ _ _ (by simp;omega))⟩
 have hDV:qai k ((w2.setCell ⟨W.heap.size,0,none⟩ (.int .i64 0)).setCell ⟨W.heap.size+1,0,none⟩ (.int .i64 0)) (fun j=>W.heap.size≤j∧j<((w2.setCell ⟨W.heap.size,0,none⟩ (.int .i64 0)).setCell ⟨W.heap.size+1,0,none⟩ (.int .i64 0)).heap.size) (.iface t y) d:=HD.out.same (fun j hj=>⟨by omega,by simp[World.setCell];exact hj.2⟩) (fun j hj=>(heap_setCell_other _ _ _ _ (by simp;omega)).trans (heap_setCell_other w2 _ _ _ (by simp;omega)));clear HD;generalize (w2.setCell ⟨W.heap.size,0,none⟩ (.int .i64 0)).setCell ⟨W.heap.size+1,0,none⟩ (.int .i64 0)=V at *;refine leaves_cons (f:=64) (args:=#[.pointer (some ⟨W.heap.size,0,none⟩),.pointer (some ⟨W.heap.size+1,0,none⟩)]) (by simp) (by simp[go_sem]) ?_;refine(qms ⟨W.heap.size,0,none⟩ ⟨W.heap.size+1,0,none⟩ V).mono ?_;rintro e u' w3 ⟨rfl,rfl,rfl⟩;simp[Leaves,settle,results,results39,go_sem,t1,t2,qvG,hfin];exact⟨t,y,⟨rfl,rfl⟩,hDV⟩
end
end Go.Proofs.YtllcbnfmihfaaaaGreatDoor
