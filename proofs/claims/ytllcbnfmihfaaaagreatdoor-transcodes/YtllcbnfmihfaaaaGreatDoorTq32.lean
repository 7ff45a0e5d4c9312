import Derived.Test.YtllcbnfmihfaaaaGreatDoorTq27
import Derived.Test.YtllcbnfmihfaaaaGreatDoorTq29
set_option maxRecDepth 100000
set_option maxHeartbeats 8000000
namespace Go.Proofs.YtllcbnfmihfaaaaGreatDoor
open Go.Proofs.Tryz
variable {kl:List (List UInt8)}{ds:List (DataW Unit)}{b base k n p:Nat}{V V' w:World}{kv u:Value}{ex:Nat→Prop}{bs l:List UInt8}{lim:Int}{o:Oper}{a:Act}{Q:Exit→Act→World→Prop}
section
open Go.RowKit Go.Lib
def esZ (kl:List (List UInt8))(ds:List (DataW Unit)):List (Lit×DataW Unit):=(kl.zip ds).map fun x=>(.string x.1,x.2)
theorem q1f (h:kl.length=ds.length)(l:List UInt8)(d:DataW Unit):esZ (kl++[l]) (ds++[d])=esZ kl ds++[(.string l,d)]:=by
 unfold esZ;rw[List.zip_append h,List.map_append];rfl
theorem qyX (h:kl.length=ds.length):(esZ kl ds).length=ds.length:=by
 unfold esZ;rw[List.length_map,List.length_zip];omega
theorem q1T:∀{kl:List (List UInt8)} {ds:List (DataW Unit)},kl.length=ds.length→(esZ kl ds).map q6v=kl.map qxX
 |[],[],_=>rfl
 |[],_::_,h=>by simp at h
 |_::_,[],h=>by simp at h
 |l::kl,d::ds,h=>by
  have ih:=q1T (kl:=kl) (ds:=ds) (by simpa using h);unfold esZ at ih ⊢;rw[List.zip_cons_cons,List.map_cons,List.map_cons,List.map_cons,ih];rfl
theorem q4s {i:Nat}{key:Lit}{d:DataW Unit}(h:(esZ kl ds)[i]? = some (key,d)):ds[i]? = some d∧∃l,key=.string l:=by
 unfold esZ at h;rw[List.getElem?_map] at h
 cases hz:(kl.zip ds)[i]? with
 |none=>rw[hz] at h;cases h
 |some x =>
  rw[hz] at h;injection h with h;injection h with h1 h2;rw[List.getElem?_zip_eq_some] at hz;exact⟨by rw[hz.2,h2],_,h1.symm⟩
structure qzE (k:Nat)(V:World)(b:Nat)(kv u:Value)(ex:Nat→Prop)(kl:List (List UInt8))(ds:List (DataW Unit)):Prop where
 keys:V.ownsRow b 9 1 kv kl.length (kl.map qxX)
 kids:qys k V b u (fun j=>some j=kv.ownBlock∨ex j) ds
 len:kl.length=ds.length
 apart:∀g,kv.ownBlock=some g→¬u.ownBlock=some g
 exk:∀g,kv.ownBlock=some g→¬ex g
 exu:∀g,u.ownBlock=some g→¬ex g
theorem q5r (k:Nat)(V:World)(b:Nat)(ex:Nat→Prop):qzE k V b qxE qxE ex [] []:=⟨World.ownsRow_nil _ _ _ _,qzz _ _ _ _,rfl,(fun g h=>by cases h),(fun g h=>by cases h),(fun g h=>by cases h)⟩
theorem qyE {t:TypeId}{size:Nat}{xs:List Value}(h:V.ownsRow b t size u n xs)(hk:∀j,u.ownBlock=some j→b≤j→j<V.heap.size→V'.heap[j]? = V.heap[j]?):V'.ownsRow b t size u n xs:=by
 refine⟨h.1,?_⟩;rcases h.2 with h2|⟨g,cap,cur,e,hb,hg,h3⟩
 ·exact .inl h2
 exact .inr ⟨g,cap,cur,e,hb,(hk g (by rw[e];rfl) hb (ltA hg)).trans hg,h3⟩
theorem qzE.next (h:qzE k V b kv u ex kl ds)(hs:V.heap.size≤V'.heap.size)(hk:∀j,b≤j→j<V.heap.size→¬ex j→V'.heap[j]? = V.heap[j]?):qzE k V' b kv u ex kl ds:=by
 refine⟨qyE h.keys (fun j e h1 h2=>hk j h1 h2 (h.exk j e)),?_,h.len,h.apart,h.exk,h.exu⟩;obtain⟨xs,h1,h2⟩:=h.kids;refine⟨xs,qyE h1 (fun j e h3 h4=>hk j h3 h4 (h.exu j e)),fun i d hd => ?_⟩;obtain⟨a,e1,e2⟩:=h2 i d hd;exact⟨a,e1,e2.same (fun j hj=>⟨hj.1,by have:=hj.2.1;omega,hj.2.2⟩) (fun j hj=>hk j hj.1 hj.2.1 (fun hx=>hj.2.2.2 (.inr hx)))⟩
theorem qzE.other {ex':Nat→Prop}(h:qzE k V b kv u ex kl ds)(hx:∀j,ex' j→ex j∨V.heap.size≤j):qzE k V b kv u ex' kl ds:=by
 refine⟨h.keys,?_,h.len,h.apart,fun g e hg => ?_,fun g e hg => ?_⟩
 ·obtain⟨xs,h1,h2⟩:=h.kids;refine⟨xs,h1,fun i d hd => ?_⟩;obtain⟨a,e1,e2⟩:=h2 i d hd;refine⟨a,e1,e2.same (fun j hj=>⟨hj.1,hj.2.1,hj.2.2.1,fun hh => ?_⟩) (fun _ _=>rfl)⟩;rcases hh with hh|hh
  ·exact hj.2.2.2 (.inl hh)
  rcases hx j hh with h'|h'
  ·exact hj.2.2.2 (.inr h')
  have:=hj.2.1;omega
 ·rcases hx g hg with h'|h'
  ·exact h.exk g e h'
  have:=qy1 h.keys e;omega
 obtain⟨xs,h1,_⟩:=h.kids;rcases hx g hg with h'|h'
 ·exact h.exu g e h'
 have:=qy1 h1 e;omega
theorem qzE.map {B:Nat}(h:qzE k V b kv u ex kl ds)(hB:B≤b):qyi (k+1) V (fun j=>B≤j∧j<V.heap.size) (.agg (thA 7 0 ⟨#[]⟩ kv u)) (.map (esZ kl ds)):=by
 obtain⟨xs,h1,h2⟩:=h.kids;have hF:∀g,b≤g→g<V.heap.size→B≤g∧g<V.heap.size:=fun g hg1 hg2=>⟨by omega,hg2⟩
 refine⟨kv,u,xs,rfl,?_,?_,fun i key d hd => ?_⟩
 ·rw[qyX h.len,q1T h.len,←h.len];exact qyq h.keys _ hF
 ·rw[qyX h.len];exact qyq h1 _ hF
 obtain⟨e1,l,e2⟩:=q4s hd;obtain⟨a,e3,e4⟩:=h2 i d e1;exact⟨l,a,e2,e3,e4.same (fun j hj=>⟨by have:=hj.1;omega,hj.2.1⟩) (fun _ _=>rfl)⟩
def q57 (kl:List (List UInt8))(ds:List (DataW Unit))(l:List UInt8)(r:Except (Int×Int) (DataW Unit×Nat)):Except (Int×Int) ((List (List UInt8)×List (Lit×DataW Unit))×Nat):=match r with
 |.error e=>.error e
 |.ok (d,q)=>.ok ((l::kl.reverse,esZ kl ds++[(.string l,d)]),q)
theorem q0C {r r':Except (Int×Int) (DataW Unit×Nat)}(h:qy8 bs lim r r'):qy8 bs lim (q57 kl ds l r) (q57 kl ds l r'):=by
 rcases h with rfl|⟨q,h1,h2,h3,x,h4⟩
 ·exact .inl rfl
 rw[h1,h4];exact .inr ⟨q,rfl,h2,h3,_,rfl⟩
theorem q39 {l:Int}{x:UInt8}(hl:Lm bs l lim)(hi:InR bs lim p):(qyb bs l p=false∧qaT bs lim [x] p=.error (qr0 bs l p 9))∨(∃c,bs[p]? = some c∧qyb bs l p=true∧¬(p:Int)=lim∧((¬c=x∧qaT bs lim [x] p=.error (qr0 bs l p 9))∨(c=x∧InR bs lim (p+1)∧qaT bs lim [x] p=.ok ((),p+1)))):=by
 rw[qaT]
 cases hc:bs[p]? with
 |none=>exact .inl ⟨qxS hc,by rw[qxY hi.1 hc]⟩
 |some c =>
  simp only[];by_cases hp:(p:Int)=lim
  ·rw[if_pos hp];exact .inl ⟨qyg hl hc hp,by rw[qxW hl hc hp]⟩
  rw[if_neg hp];refine .inr ⟨c,rfl,qxO hl hi hc hp,hp,?_⟩;by_cases hx:c=x
  ·rw[if_pos hx];exact .inr ⟨hx,qxJ hi hc hp,rfl⟩
  rw[if_neg hx];exact .inl ⟨hx,by rw[qxT hl hi hc hp]⟩
theorem q4J {l:Int}(hl:Lm bs l lim){rd:Nat→Except (Int×Int) (DataW Unit×Nat)}(hlm:∀p:Nat,(p:Int)=lim→p<bs.length→rd p=.error (8,(p:Int)))(hi:InR bs lim p){R:Except (Int×Int) ((List (List UInt8)×List (Lit×DataW Unit))×Nat)}(hR:enJ bs lim rd (kl.reverse,esZ kl ds) p=R):(qyb bs l p=false∧R=.error (qr0 bs l p 9))∨∃c,bs[p]? = some c∧qyb bs l p=true∧((¬c.toNat=34∧R=.error (qr0 bs l p 9))∨(c.toNat=34∧InR bs lim (p+1) ∧
   ((∃f,qfe bs lim (bs.length+1-(p+1)) (p+1) [] 0=.error f∧R=.error f)∨∃t r,qfe bs lim (bs.length+1-(p+1)) (p+1) [] 0=.ok (t,r)∧InR bs lim r∧p+1<r ∧
    ((t∈kl∧R=.error (qr0 bs l (r-1) 12))∨(¬t∈kl∧InR bs lim (skR bs l (bs.length+1-r) r) ∧
     ((∃f,qaT bs lim [58] (skR bs l (bs.length+1-r) r)=.error f∧R=.error f)∨∃p3,qaT bs lim [58] (skR bs l (bs.length+1-r) r)=.ok ((),p3)∧InR bs lim p3∧r<p3∧InR bs lim (skR bs l (bs.length+1-p3) p3)∧p3≤skR bs l (bs.length+1-p3) p3∧∀r',qy8 bs lim (rd (skR bs l (bs.length+1-p3) p3)) r'→qy8 bs lim R (q57 kl ds t r'))))))):=by
 unfold enJ qmo at hR;rcases q39 (x:=34) hl hi with ⟨h1,h2⟩|⟨c,hc,h1,hp,⟨h2,h3⟩|⟨h2,h3,h4⟩⟩
 ·rw[h2] at hR;exact .inl ⟨h1,hR.symm⟩
 ·rw[h3] at hR;exact .inr ⟨c,hc,h1,.inl ⟨fun e=>h2 (UInt8.toNat_inj.1 (e.trans (by rfl))),hR.symm⟩⟩
 rw[h4] at hR;simp only[] at hR;refine .inr ⟨c,hc,h1,.inr ⟨by rw[h2];rfl,h3,?_⟩⟩
 cases ht:qfe bs lim (bs.length+1-(p+1)) (p+1) [] 0 with
 |error f =>
  rw[ht] at hR;exact .inl ⟨f,rfl,hR.symm⟩
 |ok x =>
  obtain⟨t,r⟩:=x;rw[ht] at hR;have hr:=qzJ _ _ _ _ _ _ h3 ht;have hgt:=(qet bs lim _ _ _ _ _ _ ht).1;refine .inr ⟨t,r,rfl,hr,hgt,?_⟩;simp only[List.mem_reverse] at hR;by_cases hm:t∈kl
  ·rw[if_pos hm] at hR;obtain⟨r0,rfl⟩:∃r0,r=r0+1:=⟨r-1,by omega⟩
   refine .inl ⟨hm,?_⟩;rw[←hR,Nat.add_sub_cancel,q1n hl hr];simp only[];congr 2;omega
  rw[if_neg hm] at hR;simp only[] at hR;refine .inr ⟨hm,?_⟩;rcases q0r hl (bs.length+1-r) r hr with ⟨q,k1,k2,k3,k4,_⟩|⟨q,k1,k2,k3,k4⟩
  ·rw[k1] at hR;rw[k2];simp only[] at hR;refine⟨k3,?_⟩
   cases hw:qaT bs lim [58] q with
   |error f =>
    rw[hw] at hR;exact .inl ⟨f,rfl,hR.symm⟩
   |ok x =>
    obtain⟨_,p3⟩:=x;rw[hw] at hR;obtain⟨m1,m2⟩:=qyJ _ _ _ k3 hw;simp only[List.length_cons,List.length_nil] at m1;refine .inr ⟨p3,rfl,m2,by omega,?_⟩;simp only[] at hR;rcases q0r hl (bs.length+1-p3) p3 m2 with ⟨q',n1,n2,n3,n4,_⟩|⟨q',n1,n2,n3,n4⟩
    ·rw[n1] at hR;rw[n2];refine⟨n3,n4,fun r' hr' => ?_⟩;have he:=q0C (kl:=kl) (ds:=ds) (l:=t) hr';have e:q57 kl ds t (rd q')=R:=by
      rw[←hR];simp only[];unfold q57
      cases rd q' with
      |error f=>rfl
      |ok x=>rfl
     rw[e] at he;exact he
    rw[n1] at hR;rw[n2];refine⟨⟨by omega,by omega⟩,by have:=m2.2;omega,fun r' hr' => ?_⟩;have he:=q0C (kl:=kl) (ds:=ds) (l:=t) hr';have e:q57 kl ds t (rd q')=R:=by
     rw[←hR,hlm q' n3 n4];rfl
    rw[e] at he;exact he
  rw[k1] at hR;rw[k2];refine⟨⟨by omega,by omega⟩,.inl ⟨(8,(q:Int)),?_,hR.symm⟩⟩;obtain⟨c',hc'⟩:∃c',bs[q]? = some c':=⟨_,List.getElem?_eq_getElem k4⟩
  rw[qaT,hc'];simp only[];rw[if_pos k3]
theorem q6r {v v':Value}{cur:List UInt8}{o:Obj}(h:Own V base v cur)(hown:V'.ownsRow base 5 1 v' (cur.length+l.length) (cur.map qav++l.map qav))(hg:(V.alloc o).grownBy V' v.ownBlock):Own V' base v' (cur++l)∧Below base V V':=by
 have hB:=qaz ((Below.refl base V).alloc h.2.1 _) (h.1.alloc _) hg (by have:=h.2.1;simp;omega);refine⟨⟨by rw[List.length_append,List.map_append];exact hown,Nat.le_trans h.2.1 hB.size,?_⟩,hB⟩;rcases hown.2 with ⟨e,_⟩|⟨g,cap,c,e,_⟩
 ·exact⟨none,0,0,e⟩
 exact⟨_,_,_,e⟩
theorem opU {K:Act→World→Prop}(base x y:Nat)(v:Value)(cur l:List UInt8)(cs:Array Value)(hc:(l.map qav).toArray=cs)(ho:o.op=.call {callee:=.builtin .append,args:=#[.tmp x,.tmp y],argTypes:=#[28,28]})(hs:a.eval (.tmp x)=v)(hx:a.eval (.tmp y)=.slice (some ⟨w.heap.size,0,none⟩) l.length l.length)(hO:Own w base v cur)(hl:cur.length+l.length≤999999999)(hp:0<l.length)(h:∀a' n' c' w',Own w' base (.slice a' n' c') (cur++l)→Below base w w'→K (a.put o.dst (.slice a' n' c')) w'):o.wp prog a (w.alloc (.cells cs 5)) K Q:=by
 subst hc;obtain⟨i0,hi,hz0,hz1,hz2⟩:=info_parts Tryz.infoU8;refine qcY _ _ 28 ho base 5 i0 (.int .u8 0) 1 1 underlying28 hi hz0 hz1 hz2 rfl (by decide) v cur.length (cur.map qav) hs (hO.1.alloc _) ⟨w.heap.size,0,none⟩ l.length l.length (l.map qav) hx (by simp) ?_ ?_ hp (by unfold maxLen;omega) (by omega) (by have:=hO.2.1;simp;omega) ?_
 ·intro j u hu;exact qag w _ _ j u (by simpa using hu)
 ·intro u hu;obtain⟨b,_,rfl⟩:=List.mem_map.1 hu;rfl
 intro v' w' h1 h2 _;obtain⟨h3,h4⟩:=q6r hO h1 h2;obtain⟨a',n',c',rfl⟩:=h3.2.2;exact h a' n' c' w' h3 h4
theorem q7a {ops:Array Oper}{rest:List Oper}(base x y:Nat)(v:Value)(cur l:List UInt8)(cs:Array Value)(hc:(l.map qav).toArray=cs)(hgd:o.guard=none)(ho:o.op=.call {callee:=.builtin .append,args:=#[.tmp x,.tmp y],argTypes:=#[28,28]})(hs:a.eval (.tmp x)=v)(hx:a.eval (.tmp y)=.slice (some ⟨w.heap.size,0,none⟩) l.length l.length)(hO:Own w base v cur)(hl:cur.length+l.length≤999999999)(hp:0<l.length)(h:∀a' n' c' w',Own w' base (.slice a' n' c') (cur++l)→Below base w w'→wpList prog ops Q rest (a.put o.dst (.slice a' n' c')) w'):wpList prog ops Q (o::rest) a (w.alloc (.cells cs 5)) :=
 wpList_plain hgd fun _ hK=>opU base x y v cur l cs hc ho hs hx hO hl hp fun a' n' c' w' h1 h2=>hK _ _ (h a' n' c' w' h1 h2)
theorem q3I (x:Nat)(hx:x<16)(V:World):(Instr.index 9 (.string ⟨#[48,49,50,51,52,53,54,55,56,57,97,98,99,100,101,102]⟩) (.int .u8 x)).run prog V=.ok (.int .u8 (qfU x).toNat) V:=by
 have h:x=0∨x=1∨x=2∨x=3∨x=4∨x=5∨x=6∨x=7∨x=8∨x=9∨x=10∨x=11∨x=12∨x=13∨x=14∨x=15:=by omega
 rcases h with rfl|rfl|rfl|rfl|rfl|rfl|rfl|rfl|rfl|rfl|rfl|rfl|rfl|rfl|rfl|rfl<;>(show _=_;kernel_rfl)
def qB (b:UInt8):List UInt8:=if b.toNat=34∨b.toNat=92 then [92,b] else if b.toNat<32 then [92,117,48,48,qfU (b.toNat / 16),qfU (b.toNat%16)] else [b]
def qT (l:List UInt8):List UInt8:=([34]++l.flatMap qB)++[34]
theorem q7b (b:UInt8):(qB b).length≤6:=by
 unfold qB;split
 ·simp
 split<;>simp
theorem q4h:∀l:List UInt8,(l.flatMap qB).length≤6*l.length
 |[]=>by simp
 |b::l=>by
  have:=q7b b;have:=q4h l;rw[List.flatMap_cons,List.length_append,List.length_cons];omega
theorem q4G {W:World}{a:Option Addr}{c:Nat}(h:Own W base (.slice a n c) l)(hne:l≠[]):(convert 28 9 (.slice a n c)).run prog W=.ok (.string ⟨l.toArray⟩) W:=by
 rcases h.1.2 with ⟨_,e⟩|⟨g,cap,cur,e,_,hg,h3,h4,h5,h6⟩
 ·exact absurd (List.length_eq_zero_iff.1 e) hne
 injection e with e1 e2 e3;subst e1 e2 e3;refine run_convert_bytes_back _ 28 9 5 ⟨g,0,none⟩ _ l underlying28 underlying5 underlying9 ?_;intro j hj;rw[show(⟨g,0,none⟩:Addr).add j=⟨g,j,none⟩ by by_cases h:j=0<;>simp[Addr.add,h],qab hg,←Array.getElem?_toList];have h7:(cur.toList.take (l.length*1))[j]? = some (qav l[j]):=by rw[h6,List.getElem?_map,List.getElem?_eq_getElem hj];rfl
 rw[List.getElem?_take_of_lt (by omega)] at h7;exact h7
theorem q5a (k:Nat)(W:World)(F:Nat→Prop)(u:Value)(xs:List Value)(ds:List (DataW Unit))(f:DataW Unit→List UInt8)(hF:∀j,F j→j<W.heap.size)(hr:qb1 W 93 5 F u ds.length xs)(ha:∀(i:Nat) (d:DataW Unit),ds[i]? = some d→∃a,qzH xs i a∧qyi k W F (.agg a) d)(hl:(qaj 4 ds.length++ds.flatMap f).length≤999999999)(ih:∀(V:World) (a:Array Value) (d:DataW Unit),(∀j,F j→j<V.heap.size)→qyi k V F (.agg a) d→(f d).length≤999999999→Calls prog 73 #[.agg a] V (WrS (f d) V)):Calls prog 73 #[.agg (thA 6 0 ⟨#[]⟩ qxE u)] W (WrS (qaj 4 ds.length++ds.flatMap f) W):=by
 obtain⟨hn,a,cap,rfl,HC⟩:=qyC hr;have HX:Hid (qyP W (thA 6 0 ⟨#[]⟩ qxE (.slice a ds.length cap)) (W.alloc (.cells (thA 6 0 ⟨#[]⟩ qxE (.slice a ds.length cap)) 93))):=qy6 _ _;have c:=fun V=>qyk V 4 ds.length (by decide) hn;obtain⟨n,hN⟩:∃n,ds.length=n:=⟨_,rfl⟩
 obtain⟨h0,H0⟩:∃h0,Hid (qaj 4 ds.length=h0):=⟨_,show _=_ from rfl⟩
 have HKID:Hid (∀i,i<n→∃d g kd z s ka ki kj va vi vj,ds[i]? = some d∧a=some ⟨g,0,none⟩∧(∀V,Below W.heap.size W V→(V.cell? ⟨g,i*5,none⟩=some (.int .i64 kd)∧V.cell? ⟨g,i*5+1,none⟩=some (.int .i64 z)∧V.cell? ⟨g,i*5+2,none⟩=some (.string s)∧V.cell? ⟨g,i*5+3,none⟩=some (.slice ka ki kj)∧V.cell? ⟨g,i*5+4,none⟩=some (.slice va vi vj))∧Calls prog 73 #[.agg #[.int .i64 kd,.int .i64 z,.string s,.slice ka ki kj,.slice va vi vj]] V (WrS (f d) V))):=fun i hi=>by
  obtain⟨d,hd⟩:∃d,ds[i]? = some d:=⟨_,List.getElem?_eq_getElem (by omega)⟩
  obtain⟨A,hs,hA⟩:=ha i d hd;obtain⟨kd,z,s,ka,ki,kj,va,vi,vj,e⟩:=hA.shape;injection e with e;subst e;obtain⟨g,ea,hg,hc⟩:=HC i _ (by omega) hs;have hfl:(f d).length≤999999999:=by
   have h1:=qyr f ds i d hd;have h2:=qyx f ds (i+1);rw[h1,List.length_append] at h2;rw[List.length_append] at hl;omega
  refine⟨d,g,kd,z,s,ka,ki,kj,va,vi,vj,hd,ea,fun V hV=>⟨?_,ih V _ d (fun j hj=>Nat.lt_of_lt_of_le (hF j hj) hV.size) (hA.same (fun _ h=>h) (fun j hj=>hV.block j (hF j hj))) hfl⟩⟩;have hb:=hV.block g (hF g hg);exact⟨hc V hb 0 (by decide),hc V hb 1 (by decide),hc V hb 2 (by decide),hc V hb 3 (by decide),hc V hb 4 (by decide)⟩
 have HL:Hid (∀i,(h0++(ds.take i).flatMap f).length≤999999999):=fun i=>by
  have:=qyx f ds i;rw[←H0.out];rw[List.length_append] at hl ⊢;omega
 have HT:Hid (ds.flatMap f=(ds.take n).flatMap f):=by show _=_;rw[←hN,List.take_length]
 rw[HT.out];rw[H0.out] at c ⊢;rw[hN] at c HX hn ⊢;have HS:Hid (∀i d,ds[i]? = some d→h0++(ds.take (i+1)).flatMap f=(h0++(ds.take i).flatMap f)++f d):=fun i d hd=>by rw[qyr f ds i d hd,List.append_assoc]
 unfold thA qxE at *;go_enter func73,ntmps73
 go_wp2_with (first|(go_at_call 119;refine(c _).mono ?_;rintro e w2 ⟨rfl,hB2⟩;unfold qxX))
 go_loopg [3,4] n (fun g zs zi wr=>∃(i:Nat) (cur:List UInt8),zs=.string ⟨cur.toArray⟩∧zi=.int .i64 i∧Hid (i+g=n)∧Hid (cur=h0++(ds.take i).flatMap f)∧Hid (qyP W #[.int .i64 6,.int .i64 0,.string ⟨#[]⟩,.slice none 0 0,.slice a n cap] wr))
 case atStart=>exact⟨0,h0,rfl,rfl,by show _=_;omega,by show _=_;simp,HX.out.next hB2⟩
 case round =>
  obtain⟨i,cur,rfl,rfl,hg,hcur,HX⟩:=hrel;have c4:=qab HX.out.box 4
  cases gk with
  |zero =>
   obtain rfl:i=n:=hg.out;have hlt:¬(i:Int)<(i:Int):=by omega
   go_wp2;go_ret;rw[←hcur.out];exact⟨rfl,HX.out.below⟩
  |succ g =>
   have hin:i<n:=by have:=hg.out;omega
   have hlt:(i:Int)<(n:Int):=by omega
   obtain⟨d,gb,kd,z,s,ka,ki,kj,va,vi,vj,hd,rfl,hk⟩:=HKID.out i hin;obtain⟨⟨k0,k1,k2,k3,k4⟩,ck⟩:=hk _ HX.out.below;have HN:Hid (h0++(ds.take (i+1)).flatMap f=cur++f d):=by show _=_;rw[HS.out i d hd,←hcur.out]
   have hlen:¬(cur.length+(f d).length>9223372036854775807):=by
    have h1:=HL.out (i+1);rw[HN.out,List.length_append] at h1;omega
   go_wp2_with (first|(go_at_call 73;refine ck.mono ?_;rintro e w3 ⟨rfl,hB3⟩;unfold qxX))
   go_roundg g
   case measure=>omega
   case rel=>exact⟨i+1,cur++f d,by rw[←qxF],by go_num,by show _=_;have:=hg.out;omega,HN.out.symm,HX.out.next hB3⟩
end
end Go.Proofs.YtllcbnfmihfaaaaGreatDoor
