import Derived.Laws.ResultCell
import Derived.Laws.CopyRow
import Derived.Laws.MakeOwn
import Derived.Shelf.Unicode.DecodeSlow
import Derived.Maps.OwnSet
import Derived.Test.YtllcbnfmihfaaaaGreatDoorShelf
import Derived.Laws.Runes
import Derived.Laws.RangeAny
import Derived.Lib.ValidLaws
import Derived.Lib.ValidU
import Derived.Lib.TrimUEq
import Derived.Shelf.Unicode.ValidAny
import Derived.DeepKeys5
import Derived.Maps.Keyed
import Derived.Lib.AppendIntMem
import Derived.Lib.ItoaLen
import Derived.Test.YtllcbnfmihfaaaaGreatDoorTq04
import Derived.Test.YtllcbnfmihfaaaaGreatDoorTq05
set_option maxRecDepth 100000
set_option maxHeartbeats 8000000
namespace Go.Proofs.YtllcbnfmihfaaaaGreatDoor
open Go.Proofs.Tryz
variable {B fuel g n p:Nat}{a:Act}{V V' W w w':World}{P:Program}{ops:Array Oper}{l lim:Int}{Q:Exit→Act→World→Prop}{F G:Nat→Prop}{o:Oper}{bs:List UInt8}{c:UInt8}{md:Region.Mode}{S:World→Prop}
section
open Go.RowKit
theorem qah {a:World}(h:Below B a w)(hg:B≤g)(cs:Array Value):Below B a (w.setRow g cs) :=
 h.trans ⟨rfl,rfl,rfl,by simp,fun k hk=>setRow_other w g k cs (by omega)⟩
def fst (n k:Nat)(m:Nat→Nat→Bool)(l h:Nat):Nat→Nat→Bool:=fun i j=>m i j||(decide (j<n∧(i<l∨(i=l∧j<h)))&&(m i k&&m k j))
structure qbV (w:World)(a:Option Addr)(B:List Int):Prop where
 at_:∀i,i<B.length→∃b off,a=some ⟨b,off,none⟩∧b<w.heap.size∧∀j (h':j<B.length),w.cell? ⟨b,off+j,none⟩=some (.int .i64 B[j])
theorem qbV.below {a:Option Addr}{B:List Int}(h:qbV w a B)(hb:Below w.heap.size w w'):qbV w' a B :=
 ⟨fun i hi=>by
  obtain⟨b,off,ha,hlt,h1⟩:=h.at_ i hi;exact⟨b,off,ha,Nat.lt_of_lt_of_le hlt hb.size,fun j hj=>(hb.cell (p:=⟨b,_,none⟩) hlt).trans (h1 j hj)⟩⟩
theorem qcn (b off j:Nat):(⟨b,off,none⟩:Addr).add j=⟨b,off+j,none⟩:=by unfold Addr.add;split<;>simp_all
def qzx (B:List Int)(k:Int):Bool:=B.any fun x=>x==k
theorem q4g (a:Option Addr)(cap:Nat)(B:List Int)(k:Int)(hB:B.length≤maxLen)(w:World)(hA:qbV w a B):Calls prog 34 #[.slice a B.length cap,.int .i64 k] w fun e w'=>e=.returned (.bool (qzx B k))∧w'=w:=by
 unfold maxLen at hB;have HA:Hid (qbV w a B):=hA;clear hA;go_enter func34,ntmps34;go_wp2
 go_loopg [5] B.length (fun g x wr=>∃i:Nat,Hid (i+g=B.length)∧x=.int .i64 i∧w=wr∧Hid (∀j (h:j<B.length),j<i→(B[j]==k)=false))
 case atStart=>exact⟨0,by show _=_;omega,rfl,rfl,fun j h hj=>by omega⟩
 case round =>
  obtain⟨i,hi,rfl,rfl,HL⟩:=hrel
  cases gk with
  |zero =>
   have hlt:¬(i:Int)<B.length:=by have:=hi.out;omega
   have HF:Hid (qzx B k=false):=by
    show _=_;unfold qzx;rw[List.any_eq_false];intro x hx;obtain⟨j,hj,rfl⟩:=List.getElem_of_mem hx;rw[HL.out j hj (by have:=hi.out;omega)];decide
   go_wp2;go_ret;exact⟨by rw[HF.out];rfl,rfl⟩
  |succ g =>
   have hlt:(i:Int)<B.length:=by have:=hi.out;omega
   obtain⟨b,off,rfl,hbl,hcs⟩:=HA.out.at_ i (by omega);have hc:=hcs i (by omega);have HM:Hid (B[i]∈B):=List.getElem_mem _;have HE:Hid (∀x,x=B[i]→∀(h:i<B.length),(B[i]==k)=(x==k)):=fun x hx h=>by rw[hx]
   clear hcs;obtain⟨x,hx⟩:∃x,x=B[i]:=⟨_,rfl⟩
   have HX:Hid (x=B[i]):=hx;rw[←hx] at hc;clear hx;cases e:(x==k)
   ·have HQ:Hid ((x==k)=false):=e;go_wp2;go_roundg g
    case measure=>omega
    case rel =>
     refine⟨i+1,by show _=_;have:=hi.out;omega,by go_num,rfl,fun j h hj => ?_⟩;by_cases e2:j=i
     ·subst e2;rw[HE.out x HX.out h];exact HQ.out
     exact HL.out j h (by omega)
   have HF:Hid (qzx B k=true):=by
    show _=_;unfold qzx;rw[List.any_eq_true];exact⟨B[i],HM.out,by rw[←HX.out];exact e⟩
   go_wp2;go_ret;exact⟨by rw[HF.out];rfl,rfl⟩
structure qlZ (w:World):Prop where
 signs:∃t fr,w.heap[2]? = some (.cells #[.string ⟨#[42]⟩,.int .i64 0,.string ⟨#[42,42]⟩,.int .i64 1,.string ⟨#[91,93]⟩,.int .i64 2] t fr)
 tabs:Lib.Utf8Tabs 4 5 w
 mlen:∃m,w.cell? ⟨3,0,none⟩=some (.int .i64 m)
theorem qlZ.below (h:qlZ w)(hb:Below w.heap.size w w'):qlZ w':=by
 obtain⟨t,fr,h1⟩:=h.signs;obtain⟨m,h2⟩:=h.mlen;exact⟨⟨t,fr,(hb.block _ (ltA h1)).trans h1⟩,Utf8Tabs_below h.tabs hb,⟨m,(hb.cell (p:=⟨_,0,none⟩) (block_lt_of_cell h2)).trans h2⟩⟩
structure OpD where
 kind:Int
 a:Int
 b:Int
 c:Int
 d:Int
 s:ByteArray
 pp:Option Addr
 pl:Nat
 pc:Nat
def OpD.arr (o:OpD):Array Value:=#[.int .i64 o.kind,.int .i64 o.a,.int .i64 o.b,.int .i64 o.c,.int .i64 o.d,.string o.s,.slice o.pp o.pl o.pc]
theorem q0F {l:List Oper}(hw:w'=w)(h:wpList P ops Q l a w'):wpList P ops Q l a w:=hw▸h
structure q3o (w:World)(a:Option Addr)(n:Nat)(h:Nat→OpD):Prop where
 at_:∀k,k<n→∃b off,a=some ⟨b,off,none⟩∧b<w.heap.size∧∀k j,k<n→j<7→w.cell? ⟨b,off+k*7+j,none⟩=(h k).arr[j]?
 a1:∀k,k<n → -9223372036854775808≤(h k).a∧(h k).a≤9223372036854775807
theorem q3o.below {a:Option Addr}{g:Nat→OpD}(h:q3o w a n g)(hb:Below w.heap.size w w'):q3o w' a n g :=
 ⟨fun k hk=>by
  obtain⟨b,off,ha,hlt,h1⟩:=h.at_ k hk;exact⟨b,off,ha,Nat.lt_of_lt_of_le hlt hb.size,fun k j hk hj=>(hb.cell (p:=⟨b,_,none⟩) hlt).trans (h1 k j hk hj)⟩,h.a1⟩
def qb1 (V:World)(t:TypeId)(size:Nat)(F:Nat→Prop)(v:Value)(n:Nat)(xs:List Value):Prop :=
 xs.length=n*size∧((v=.slice none 0 0∧n=0)∨∃g cap cur,v=.slice (some ⟨g,0,none⟩) n cap∧F g∧V.heap[g]? = some (.cells cur t (0,0))∧n≤cap∧cap≤maxLen∧cur.size=cap*size∧cur.toList.take (n*size)=xs)
def qai:Nat→World→(Nat→Prop)→Value→DataW Unit→Prop
 |0,_,_,_,_=>False
 |k+1,V,F,v,d=>match d with
  |.nil=>v=.iface 247 (.agg #[])
  |.lit (.bool b)=>v=.iface 277 (.bool b)
  |.lit (.int .i64 z)=>v=.iface 279 (.int .i64 z) ∧ -9223372036854775808≤z∧z≤9223372036854775807
  |.lit (.string l)=>v=.iface 281 (.string ⟨l.toArray⟩)
  |.ptr (.lit (.string l))=>∃u,v=.iface 202 u∧qb1 V 5 1 F u l.length (l.map qav)
  |.agg ds=>∃u xs,v=.iface 204 u∧qb1 V 81 1 F u ds.length xs∧∀(i:Nat) (x:Value) (d:DataW Unit),xs[i]? = some x→ds[i]? = some d→qai k V F x d
  |.map es=>∃u xs,v=.iface 206 u∧qb1 V 208 2 F u es.length xs∧∀(i:Nat) (key:Lit) (d:DataW Unit),es[i]? = some (key,d)→∃l x,key=.string l∧xs[2*i]? = some (.string ⟨l.toArray⟩)∧xs[2*i+1]? = some x∧qai k V F x d
  |_=>False
theorem qb1.same {t:TypeId}{size:Nat}{v:Value}{xs:List Value}(h:qb1 V t size F v n xs)(hFG:∀k,F k→G k)(hk:∀k,F k→V'.heap[k]? = V.heap[k]?):qb1 V' t size G v n xs:=by
 obtain⟨h1,h2⟩:=h;refine⟨h1,?_⟩;rcases h2 with h2|⟨g,cap,cur,e,hf,hg,h3⟩
 ·exact .inl h2
 exact .inr ⟨g,cap,cur,e,hFG g hf,(hk g hf).trans hg,h3⟩
theorem qai.same (hFG:∀k,F k→G k)(hk:∀k,F k→V'.heap[k]? = V.heap[k]?):∀{k:Nat} {v:Value} {d:DataW Unit},qai k V F v d→qai k V' G v d
 |0,_,_,h=>h
 |k+1,v,d,h=>by
  unfold qai at h ⊢;split at h
  ·exact h
  ·exact h
  ·exact h
  ·exact h
  ·obtain⟨u,e,hr⟩:=h;exact⟨u,e,hr.same hFG hk⟩
  ·obtain⟨u,xs,e,hr,ha⟩:=h;exact⟨u,xs,e,hr.same hFG hk,fun i x d h1 h2=>qai.same hFG hk (ha i x d h1 h2)⟩
  ·obtain⟨u,xs,e,hr,ha⟩:=h;refine⟨u,xs,e,hr.same hFG hk,fun i key d h1 => ?_⟩;obtain⟨l,x,e1,e2,e3,e4⟩:=ha i key d h1;exact⟨l,x,e1,e2,e3,qai.same hFG hk e4⟩
  exact h
theorem qai.more:∀{k m:Nat} {v:Value} {d:DataW Unit},k≤m→qai k V F v d→qai m V F v d
 |0,_,_,_,_,h=>h.elim
 |k+1,0,_,_,hm,_=>absurd hm (by omega)
 |k+1,m+1,v,d,hm,h=>by
  unfold qai at h ⊢;split at h
  ·exact h
  ·exact h
  ·exact h
  ·exact h
  ·exact h
  ·obtain⟨u,xs,e,hr,ha⟩:=h;exact⟨u,xs,e,hr,fun i x d h1 h2=>qai.more (by omega) (ha i x d h1 h2)⟩
  ·obtain⟨u,xs,e,hr,ha⟩:=h;refine⟨u,xs,e,hr,fun i key d h1 => ?_⟩;obtain⟨l,x,e1,e2,e3,e4⟩:=ha i key d h1;exact⟨l,x,e1,e2,e3,qai.more (by omega) e4⟩
  exact h
theorem qcS (w:World)(base:Nat)(t ty e:TypeId)(i:TypeInfo)(z:Value)(size bytes:Nat)(ht:P.underlying t=some (.slice e))(hi:P.info? e=some i)(hz:i.zero=some z)(hsize:i.size=size)(hby:i.bytes=bytes)(v:Value)(n:Nat)(xs:List Value)(hown:w.ownsRow base e size v n xs)(a:Addr)(m c:Nat)(news:List Value)(hl:news.length=m*size)(hnews:∀j u,news[j]? = some u→w.cell? (a.add j)=some u)(h1:∀u∈news,u.oneCell'=true)(hm:0<m)(h63:n+m≤maxLen)(hbytes:(n+m)*bytes≤140737488355328){v':Value}(hr:(Builtin.append_ #[t,t] ty #[v,.slice (some a) m c]).run P w=.ok v' w'):v'.ownBlock=v.ownBlock∨v'.ownBlock=some w.heap.size:=by
 subst hsize;subst hby;have hsmall:n+m≤9223372036854775807:=by simp only[maxLen] at h63;omega
 rcases hown.2 with ⟨rfl,rfl⟩|⟨g,cap,cur,rfl,hbg,hg,hnc,hcm,hcs,htake⟩
 ·have h2:=run_append_nil (P:=P) w t ty e i z ht hi hz a m c news hl hnews hm (by omega) (by have hb:=hbytes;simp only[Nat.zero_add] at hb;omega);rw[h2] at hr;injection hr with e1 e2;right;rw[←e1];rfl
 by_cases hroom:n+m≤cap
 ·have hfit:n*i.size+news.length≤cur.size:=by rw[hl,hcs,←Nat.add_mul];exact Nat.mul_le_mul_right _ hroom
  have h2:=run_append_room (P:=P) w t ty e i ht hi g n cap cur hg a m c news hl hnews h1 hroom hfit;rw[h2] at hr;injection hr with e1 e2;left;rw[←e1];rfl
 have holds:=hown.cells (g:=g) rfl;have h2:=run_append_grow (P:=P) w t ty e i z ht hi hz ⟨g,0,none⟩ n cap xs hown.1 holds a m c news hl hnews (by omega) (by omega) (growslice_fits (by omega) hbytes);rw[h2] at hr;injection hr with e1 e2;right;rw[←e1];rfl
theorem qaX (w:World){rest:List Oper}(hgd:o.guard=none)(s x:Operand)(t:TypeId)(ho:o.op=.call {callee:=.builtin .append,args:=#[s,x],argTypes:=#[t,t]})(base:Nat)(e:TypeId)(i:TypeInfo)(z:Value)(size bytes:Nat)(ht:P.underlying t=some (.slice e))(hi:P.info? e=some i)(hz:i.zero=some z)(hsize:i.size=size)(hby:i.bytes=bytes)(hzs:z.cells.size=size)(hsz:0<size)(v:Value)(n:Nat)(xs:List Value)(hs:a.eval s=v)(hown:w.ownsRow base e size v n xs)(ad:Addr)(m c:Nat)(news:List Value)(hx:a.eval x=.slice (some ad) m c)(hl:news.length=m*size)(hnews:∀j u,news[j]? = some u→w.cell? (ad.add j)=some u)(h1:∀u∈news,u.oneCell'=true)(hm:0<m)(h63:n+m≤maxLen)(hbytes:(n+m)*bytes≤140737488355328)(hbase:base≤w.heap.size)(h:∀v' w',w'.ownsRow base e size v' (n+m) (xs++news)→w.grownBy w' v.ownBlock→(v'.ownBlock=v.ownBlock∨v'.ownBlock=some w.heap.size)→wpList P ops Q rest (a.put o.dst v') w'):wpList P ops Q (o::rest) a w:=by
 refine wpList_plain hgd fun K hK => ?_;obtain⟨v',w',hr,h2,h3,_⟩:=run_append_own (P:=P) w base t o.type e i z size bytes ht hi hz hsize hby hzs hsz v n xs hown ad m c news hl hnews h1 h63 hbytes hbase;have h4:=qcS (P:=P) w base t o.type e i z size bytes ht hi hz hsize hby v n xs hown ad m c news hl hnews h1 hm h63 hbytes hr;unfold Oper.wp execOp;simp only[ho,resolve,invoke,builtin,Sem.run_bind,Sem.run_pure,Result.andThen_ok,List.map_toArray,List.map_cons,List.map_nil,hs,hx,hr];exact hK _ _ (h v' w' h2 h3 h4)
def Lm (bs:List UInt8)(l lim:Int):Prop:=∀p:Nat,p<bs.length→((p:Int)<l↔(p:Int)<lim)
def InR (bs:List UInt8)(lim:Int)(p:Nat):Prop:=p≤bs.length∧(p:Int)≤lim
theorem qxS (h:bs[p]? = none):qyb bs l p=false:=by
 unfold qyb;rw[decide_eq_false (by have:=List.getElem?_eq_none_iff.1 h;omega)];rfl
theorem qxY (hp:p≤bs.length)(h:bs[p]? = none)(e:Int):qr0 bs l p e=(9,(p:Int)):=by
 have:=List.getElem?_eq_none_iff.1 h;unfold qr0;rw[if_neg (fun hh=>by omega),if_pos (by omega),show bs.length=p by omega]
theorem qyg (hl:Lm bs l lim)(h:bs[p]? = some c)(hp:(p:Int)=lim):qyb bs l p=false:=by
 have h1:=ltL h;have h2:=hl p h1;unfold qyb;rw[decide_eq_false (p:=(p:Int)<l) (by omega),Bool.and_false]
theorem qxW (hl:Lm bs l lim)(h:bs[p]? = some c)(hp:(p:Int)=lim)(e:Int):qr0 bs l p e=(8,(p:Int)):=by
 have h1:=ltL h;have h2:=hl p h1;unfold qr0;rw[if_pos (by omega)]
theorem qxO (hl:Lm bs l lim)(hi:InR bs lim p)(h:bs[p]? = some c)(hp:¬(p:Int)=lim):qyb bs l p=true:=by
 have h1:=ltL h;have h2:=hl p h1;have h3:=hi.2;unfold qyb;rw[decide_eq_true h1,decide_eq_true (p:=(p:Int)<l) (by omega)];rfl
theorem qxT (hl:Lm bs l lim)(hi:InR bs lim p)(h:bs[p]? = some c)(hp:¬(p:Int)=lim)(e:Int):qr0 bs l p e=(e,(p:Int)):=by
 have h1:=ltL h;have h2:=hl p h1;have h3:=hi.2;unfold qr0;rw[if_neg (by omega),if_neg (by omega)]
theorem qxJ (hi:InR bs lim p)(h:bs[p]? = some c)(hp:¬(p:Int)=lim):InR bs lim (p+1):=by
 have h1:=ltL h;have h3:=hi.2;exact⟨by omega,by omega⟩
def qy8 {α:Type}(bs:List UInt8)(lim:Int)(r r':Except (Int×Int) (α×Nat)):Prop:=r=r'∨∃q:Nat,r=.error (8,(q:Int))∧(q:Int)=lim∧q<bs.length∧∃x,r'=.ok (x,q)
theorem q0r (hl:Lm bs l lim):∀(g p:Nat),InR bs lim p→(∃q,spF bs lim g p=.ok ((),q)∧skR bs l g p=q∧InR bs lim q∧p≤q∧(bs.length+1≤p+g→∀g',spF bs lim g' q=.ok ((),q)))∨(∃q:Nat,spF bs lim g p=.error (8,(q:Int))∧skR bs l g p=q∧(q:Int)=lim∧q<bs.length)
 |0,p,hi=>.inl ⟨p,rfl,rfl,hi,Nat.le_refl _,fun h=>absurd h (by have:=hi.1;omega)⟩
 |g+1,p,hi=>by
  rw[spF,skR]
  cases hc:bs[p]? with
  |none =>
   refine .inl ⟨p,rfl,rfl,hi,Nat.le_refl _,fun _ g' => ?_⟩
   cases g' with
   |zero=>rfl
   |succ g'=>rw[spF,hc]
  |some c =>
   simp only[];by_cases hp:(p:Int)=lim
   ·rw[if_pos hp];have h1:=ltL hc;rw[if_neg (show ¬(p:Int)<l by have:=hl p h1;omega)];exact .inr ⟨p,rfl,rfl,hp,h1⟩
   rw[if_neg hp];have h1:=ltL hc;rw[if_pos (show(p:Int)<l by have:=hl p h1;have:=hi.2;omega)];by_cases hs:qxm c=true
   ·rw[if_pos hs,if_pos hs];rcases q0r hl g (p+1) (qxJ hi hc hp) with ⟨q,a,b,c,d,e⟩|h
    ·exact .inl ⟨q,a,b,c,by omega,fun hh=>e (by omega)⟩
    exact .inr h
   rw[if_neg hs,if_neg hs];refine .inl ⟨p,rfl,rfl,hi,Nat.le_refl _,fun _ g' => ?_⟩
   cases g' with
   |zero=>rfl
   |succ g' =>
    rw[spF,hc];simp only[];rw[if_neg hp,if_neg hs]
def qaE (W:World)(m:Nat)(ks:List (List UInt8)):Prop:=∃D,W.ownsMap prog 9 (unitElem (H:=Unit)) m ks.length D∧∀l:List UInt8,Maps.has D (.string l)=decide (l∈ks)
theorem qaE.kept {W':World}{m:Nat}{ks:List (List UInt8)}{row:Option Nat}(h:qaE W m ks)(hg:W.grownBy W' row)(hne:some m≠row):qaE W' m ks:=by
 obtain⟨D,h1,h2⟩:=h;exact⟨D,h1.kept hg hne,h2⟩
theorem qic (l:List UInt8)(hb:l.length≤1000000000):keyOf prog 9 (.string ⟨l.toArray⟩)=some (.string l):=by
 have hs:(⟨l.toArray⟩:ByteArray).size≤maxLen:=by
  show l.toArray.size≤maxLen;rw[List.size_toArray];unfold maxLen;omega
 simp[keyOf,mapKey,underlying9,hs]
theorem qht (W:World)(m:Nat)(ks:List (List UInt8))(l:List UInt8)(h:qaE W m ks)(hl:l∈ks)(hb:l.length≤1000000000):Calls prog 318 #[.map (some m),.string ⟨l.toArray⟩] W fun e W'=>e=.returned (.bool false)∧Below W.heap.size W W':=by
 obtain⟨D,h1,h2⟩:=h;have hz:(zeroValue 246).run prog W=.ok (.agg #[]) W:=by kernel_rfl
 obtain⟨v,ps,hrun,hv⟩:=h1.look_ok (Maps.string_keyed underlying9) underlying414 hz unitElem_mk (qic l hb);obtain⟨rfl,_⟩:=unitElem_inv hv;rw[h2 l,decide_eq_true hl] at hrun;go_enter func318,ntmps318;go_wp2;go_ret;exact⟨rfl,bwA⟩
theorem ql3 (W:World)(m:Nat)(ks:List (List UInt8))(l:List UInt8)(h:qaE W m ks)(hl:¬l∈ks)(hn:ks.length<1000000000)(hb:l.length≤1000000000):Calls prog 318 #[.map (some m),.string ⟨l.toArray⟩] W fun e W'=>e=.returned (.bool true)∧qaE W' m (l::ks)∧But m W W':=by
 obtain⟨D,h1,h2⟩:=h;have hz:(zeroValue 246).run prog W=.ok (.agg #[]) W:=by kernel_rfl
 obtain⟨v,ps,hrun,hv⟩:=h1.look_ok (Maps.string_keyed underlying9) underlying414 hz unitElem_mk (qic l hb);obtain⟨rfl,_⟩:=unitElem_inv hv;rw[h2 l,decide_eq_false hl] at hrun;obtain⟨w',hst,ho,hT⟩:=(h1.alloc (.cells #[] 246)).store (Maps.string_keyed underlying9) underlying414 (by unfold maxLen;omega) (qic l hb) (val:=.agg #[]) (unitElem_mk (H:=Unit));have HF:Hid (qaE w' m (l::ks)∧But m W w'):=by
  refine⟨⟨_,ho,fun q => ?_⟩,?_⟩
  ·by_cases hq:q=l
   ·subst hq;rw[Maps.has_put_same h1.isMap (Maps.string_keyed (P:=prog) underlying9 |>.key (qic q hb))];simp
   rw[Maps.has_put_other (fun e=>hq (by injection e)),h2 q];simp[hq]
  have hg:=hT.grown;exact⟨hg.os,hg.tape,hg.output,Nat.le_trans (by simp) hg.size,fun k hk hne=>(hg.block k (by simp;omega) (by simpa using hne)).trans (Below.heap_alloc _ _ _ hk)⟩
 go_enter func318,ntmps318;go_wp2;go_ret;exact⟨rfl,HF.out.1,HF.out.2⟩
theorem qe2 {b:Nat}{s:Src}(k n:Nat)(h:qad W b s):qad ((W.drewN n).setCell ⟨b,4,none⟩ (.int .i64 k)) b {s with within:=k}∧But b W ((W.drewN n).setCell ⟨b,4,none⟩ (.int .i64 k)):=by
 have hr:(W.drewN n).heap[b]? = some (.cells s.arr 196):=h.row;have hk:∀q,q≠b→((W.drewN n).setCell ⟨b,4,none⟩ (.int .i64 k)).heap[q]? = W.heap[q]?:=fun q hq=>heap_setCell_other (W.drewN n) _ _ _ (by simpa using hq);refine⟨⟨?_,fun i hi => ?_,h.len,h.le⟩,⟨rfl,rfl,rfl,by simp[World.setCell,World.drewN],fun q _ hq=>hk q hq⟩⟩
 ·rw[setCell_eq_setRow _ b 4 _ _ _ _ hr,setRow_heap _ _ _ _ _ _ hr];rfl
 obtain⟨g,off,e1,e2,e3⟩:=h.inp i hi;exact⟨g,off,e1,e2,(World.cell?_of_block (w:=W) (hk g e2)).trans e3⟩
theorem qin (W:World)(b:Nat)(s:Src)(h:qad W b s)(hd:¬(s.within:Int)=s.depth)(hw:s.within≤1000000):Calls prog 289 #[.pointer (some ⟨b,0,none⟩)] W fun e W'=>e=.returned (.tuple #[])∧qad W' b {s with within:=s.within+1}∧But b W W':=by
 have k1:W.cell? ⟨b,1,none⟩=some (.int .i64 s.depth):=qab h.row 1;have k4:W.cell? ⟨b,4,none⟩=some (.int .i64 s.within):=qab h.row 4;have f4:=frozen_of_row W b 4 _ _ h.row;have HN:Hid (∀n,qad ((W.drewN n).setCell ⟨b,4,none⟩ (.int .i64 ((s.within:Int)+1))) b {s with within:=s.within+1}∧But b W ((W.drewN n).setCell ⟨b,4,none⟩ (.int .i64 ((s.within:Int)+1)))):=fun n=>qe2 (s.within+1) n h;have e1:((s.within:Int)==s.depth)=false:=by simpa using hd
 go_enter func289,ntmps289;go_wp2
 go_quiet (fail)
 go_wp2;go_end0;exact⟨rfl,(HN.out nq).1,(HN.out nq).2⟩
theorem qjb (W:World)(b:Nat)(s:Src)(h:qad W b s)(hd:(s.within:Int)=s.depth):Calls prog 289 #[.pointer (some ⟨b,0,none⟩)] W fun e W'=>qao 11 ((s.pos:Int)-1) e∧But b W W'∧∃p,qad W' b {s with pos:=p}:=by
 have k1:W.cell? ⟨b,1,none⟩=some (.int .i64 s.depth):=qab h.row 1;have k4:W.cell? ⟨b,4,none⟩=some (.int .i64 s.within):=qab h.row 4;have e1:((s.within:Int)==s.depth)=true:=by simpa using hd
 have cR:=fun n=>qat (W.drewN n) b s 11 (h.drewN n);have HH:=qaa h;go_enter func289,ntmps289;go_wp2
 go_quiet (fail)
 go_wp2_with (first
  |(go_at_call 295;refine(cR nq).mono ?_;rintro e w7 ⟨hF,rfl⟩;obtain rfl:=hF))
 exact⟨rfl,rfl,But.of_below (qam W nq),_,HH.out.drewN nq⟩
theorem qj2 (W:World)(b k:Nat)(s:Src)(h:qad W b s)(hk:s.within=k+1)(hw:s.within≤1000000):Calls prog 317 #[.pointer (some ⟨b,0,none⟩)] W fun e W'=>e=.returned (.tuple #[])∧qad W' b {s with within:=k}∧But b W W':=by
 have k4:W.cell? ⟨b,4,none⟩=some (.int .i64 ((k:Int)+1)):=by
  have:=qab h.row 4;rw[this];show some (Value.int .i64 (s.within:Int))=_;rw[hk];rfl
 have f4:=frozen_of_row W b 4 _ _ h.row;have HN:Hid (qad (W.setCell ⟨b,4,none⟩ (.int .i64 k)) b {s with within:=k}∧But b W (W.setCell ⟨b,4,none⟩ (.int .i64 k))):=qe2 k 0 h;have hk2:k≤1000000:=by omega
 go_enter func317,ntmps317;go_wp2;go_end0;exact⟨rfl,HN.out.1,HN.out.2⟩
theorem qdt (z:Int):∀w:World,(Instr.typeAssert (.iface 279 (.int .i64 z)) 81 277 true).run prog w=.ok (.tuple #[.bool false,.bool false]) w:=fun w=>by kernel_rfl
theorem qfJ (z:Int):∀w:World,(Instr.typeAssert (.iface 279 (.int .i64 z)) 81 279 true).run prog w=.ok (.tuple #[.int .i64 z,.bool true]) w:=fun w=>by kernel_rfl
def qid (z:Int):List UInt8:=if z<0 then qbo z else qbf z.toNat
def qhB (z:Int):List UInt8:=if z<0 then qaj 1 (-1-z).toNat else qaj 0 z.toNat
theorem qo0 (W:World)(base:Nat)(v:Value)(bs:List UInt8)(z:Int)(hn1 : -9223372036854775808≤z)(hn2:z≤9223372036854775807)(hl:bs.length≤999999999)(h:Own W base v bs):Calls prog 111 #[v,qpT z] W fun e W'=>∃v',e=.returned v'∧Own W' base v' (bs++qid z)∧Below base W W':=by
 unfold qpT;obtain⟨ho,hb,a,n,c,rfl⟩:=h;have HO:Hid (Own W base (.slice a n c) bs):=⟨ho,hb,a,n,c,rfl⟩
 have hk:Hid (qid z=if z<0 then qbo z else qbf z.toNat):=rfl;by_cases c0:z<0
 ·have hr:Hid (qid z=qbo z):=by show _=_;rw[hk.out,if_pos c0]
  have c1:decide (z<0)=true:=by simp;exact c0
  have ta1:=qdt z;have ta2:=qfJ z;go_enter func111,ntmps111
  go_wp2_with (first
   |(go_at_call 165;refine(qkE _ base _ bs z hn1 c0 hl HO.out).mono ?_;rintro e w6 ⟨v6,rfl,h6,hB6⟩;obtain⟨h61,h62,a6,n6,c6,rfl⟩:=h6))
  go_ret;rw[hr.out];exact⟨_,rfl,⟨h61,h62,_,_,_,rfl⟩,hB6⟩
 have hr:Hid (qid z=qbf z.toNat):=by show _=_;rw[hk.out,if_neg c0]
 obtain⟨x,rfl⟩:∃x:Nat,z=x:=⟨z.toNat,by omega⟩
 have c1:decide ((x:Int)<0)=false:=by simp
 have ta1:=qdt (x:Int);have ta2:=qfJ (x:Int);go_enter func111,ntmps111
 go_wp2_with (first
  |(go_at_call 166;refine(qlh _ base _ bs x (by omega) hl HO.out).mono ?_;rintro e w6 ⟨v6,rfl,h6,hB6⟩;obtain⟨h61,h62,a6,n6,c6,rfl⟩:=h6))
 go_ret;rw[hr.out];exact⟨_,rfl,⟨h61,h62,_,_,_,rfl⟩,hB6⟩
theorem qoW (W:World)(base:Nat)(v:Value)(bs:List UInt8)(z:Int)(hn1 : -9223372036854775808≤z)(hn2:z≤9223372036854775807)(hl:bs.length≤999999999)(h:Own W base v bs):Calls prog 110 #[v,qpT z] W fun e W'=>∃v',e=.returned v'∧Own W' base v' (bs++qhB z)∧Below base W W':=by
 unfold qpT;obtain⟨ho,hb,a,n,c,rfl⟩:=h;have HO:Hid (Own W base (.slice a n c) bs):=⟨ho,hb,a,n,c,rfl⟩
 have hk:Hid (qhB z=if z<0 then qaj 1 (-1-z).toNat else qaj 0 z.toNat):=rfl;by_cases c0:z<0
 ·have hr:Hid (qhB z=qaj 1 (-1-z).toNat):=by show _=_;rw[hk.out,if_pos c0]
  obtain⟨x,rfl⟩:∃x:Nat,z = -1-(x:Int):=⟨(-1-z).toNat,by omega⟩
  have cA:=fun V h=>qbl V base (.slice a n c) bs 1 x (by omega) (by omega) hl h;have cB:∀V,Own V base (.slice a n c) bs→Calls prog 163 #[.slice a n c,.int .u8 1,.int .u64 (-1-(-1-(x:Int)))] V fun e W'=>∃v',e=.returned v'∧Own W' base v' (bs++qaj 1 x)∧Below base V W':=by
   rw[show(-1-(-1-(x:Int)))=x by omega];exact cA
  rw[show(-1-(-1-(x:Int))).toNat=x by omega] at hr;have ta1:=qdt (-1-(x:Int));have ta2:=qfJ (-1-(x:Int));go_enter func110,ntmps110
  go_wp2_with (first
   |(go_at_call 163;refine(cB _ HO.out).mono ?_;rintro e w6 ⟨v6,rfl,h6,hB6⟩;obtain⟨h61,h62,a6,n6,c6,rfl⟩:=h6))
  go_ret;rw[hr.out];exact⟨_,rfl,⟨h61,h62,_,_,_,rfl⟩,hB6⟩
 have hr:Hid (qhB z=qaj 0 z.toNat):=by show _=_;rw[hk.out,if_neg c0]
 obtain⟨x,rfl⟩:∃x:Nat,z=x:=⟨z.toNat,by omega⟩
 have c1:decide ((x:Int)<0)=false:=by simp
 have ta1:=qdt (x:Int);have ta2:=qfJ (x:Int);go_enter func110,ntmps110
 go_wp2_with (first
  |(go_at_call 163;refine(qbl _ base _ bs 0 x (by omega) (by omega) hl HO.out).mono ?_;rintro e w6 ⟨v6,rfl,h6,hB6⟩;obtain⟨h61,h62,a6,n6,c6,rfl⟩:=h6))
 go_ret;rw[hr.out];exact⟨_,rfl,⟨h61,h62,_,_,_,rfl⟩,hB6⟩
theorem qip (W:World):Own W W.heap.size (.slice none 0 0) []:=by
 refine⟨?_,Nat.le_refl _,none,0,0,rfl⟩;exact World.ownsRow_nil ..
end
section
open Go.RowKit Go.Shelf
theorem qgz (W:World)(N:Nat)(s:ByteArray)(pos:Nat)(ty:TypeId)(hN:W.heap[N]? = some (.stringIter s pos))(h:pos<s.size):(Instr.next (.pointer (some ⟨N,0,none⟩)) true ty).run P W =
   .ok (.tuple #[.bool true,.int .i64 pos,.int .i32 (Utf8.decode s pos).1]) (W.putObj N (.stringIter s (pos+(Utf8.decode s pos).2))):=by
 simp only[Instr.next,getObj,setObj,Sem.run_bind,Sem.run,hN,Result.andThen,h,if_true,World.putObj];simp[goInt]
theorem qeb (W:World)(N:Nat)(s:ByteArray)(pos:Nat)(ty:TypeId)(hN:W.heap[N]? = some (.stringIter s pos))(h:¬pos<s.size):(Instr.next (.pointer (some ⟨N,0,none⟩)) true ty).run P W=.ok (.tuple #[.bool false]) W:=by
 simp[Instr.next,getObj,Sem.run,hN,h]
theorem qbs {a:World}(h:Below B a w)(hg:B≤g)(o:Obj):Below B a (w.putObj g o) :=
 h.trans ⟨rfl,rfl,rfl,by simp[World.putObj],fun k hk=>World.putObj_heap_other (by omega)⟩
end
section
open Go.RowKit
theorem rdS {listed:Array Bool}(i:Nat)(hi:ops[i]? = some o)(hr:Region.ready md ops listed=[i])(h:∀K':Act→World→Prop,Shut (∀a w,S w→(S w→wpAnyH P md ops Q S fuel (listed.setIfInBounds i true) a w)→K' a w)→if Region.wanted o (yielded ops a.tmps)=true then Oper.wp P o a w K' Q else K' (a.put o.dst undef) w):wpAnyH P md ops Q S (fuel+1) listed a w :=
 wpAnyH_ready hr (by simp) (AllReadyH.cons hi h AllReadyH.nil)
theorem tkH {oi:Oper}{listed:Array Bool}(i dst:Nat)(v:Value)(hi:ops[i]? = some oi)(hk:(Region.noSelect ops&&Region.free md ops listed i&&(Region.ready md ops listed).contains i&&oi.dst==some dst&&Region.wanted oi (yielded ops a.tmps))=true)(hQ:∀c a w,Q (.panic c) (a.put (some dst) v) w→Q (.panic c) a w)(hy:∀Z,S Z→(execOp a.eval oi).run P Z=.ok (.value v) Z)(hS:S w)(h:wpAnyH P md ops Q S fuel (listed.setIfInBounds i true) (a.put (some dst) v) w):wpAnyH P md ops Q S (fuel+1) listed a w:=by
 simp only[Bool.and_eq_true] at hk;have hd:oi.dst=some dst:=by simpa using hk.1.2
 rw[←hd] at hQ h;exact wpAnyH_take hi hk.1.1.1.1 hk.1.1.1.2 hk.1.1.2 hQ (.inl ⟨hk.2,hy⟩) hS h
def w1 (st x:Nat):Nat:=x ||| ((x &&& st) <<< 1)
structure Aut where
 ra:Option Addr
 rc:Nat
 rs:List (List (Nat×List UInt8)×Int×Int)
 dflt:Int
 lm:Nat
 ln:Nat
 lf:Lit→Option Nat
 st:Nat→Nat
 tb:Nat
 L:Nat
 tc:Nat
 tk:Nat→Nat→Nat
 nb:Nat
 mb:Nat
def qnt : String := "internal" ++ (String.singleton (Char.ofNat 47) ++ "strconv.uint64pow10")
def qiG (B:Nat)(w:World):Prop:=Lib.TabBelow prog B w qnt .u64 Lib.pow10Tab
theorem qi0 (bs:List UInt8):Lib.byteCells bs=bs.map qav:=by
 unfold Lib.byteCells qav;rfl
theorem qhQ (W:World)(base:Nat)(v:Value)(bs:List UInt8)(z:Int)(hn1 : -9223372036854775808≤z)(hn2:z≤9223372036854775807)(hl:bs.length≤999999999)(h:Own W base v bs)(ht:qiG base W):Calls prog 159 #[v,.int .i64 z,.int .i64 10] W fun e W'=>∃v',e=.returned v'∧Own W' base v' (bs++Lib.itoa z)∧Below base W W':=by
 obtain⟨ho,hb,hs⟩:=h;refine(Any.strconv_AppendInt_10 Tryz.laysM176 base bs.length z hn1 hn2 v (bs.map qav) W ho hb (by omega) (Eq.mp (congrArg (fun s=>Lib.TabBelow prog base W s .u64 Lib.pow10Tab) (by kernel_rfl)) ht)).mono ?_;rintro e w ⟨v',rfl,hown,hB,_⟩;refine⟨v',rfl,⟨?_,?_,?_⟩,hB⟩
 ·rw[List.length_append,List.map_append,←qi0 (Lib.itoa z)];exact hown
 ·have:=hB.size;omega
 rcases hown.2 with ⟨e,_⟩|⟨g,cap,cur,e,_⟩
 ·exact⟨_,_,_,e⟩
 exact⟨_,_,_,e⟩
def qfm (f:Int):Bool:=f==1||f==2||f==3
theorem qcX (f:Int)(w:World):Calls prog 63 #[.int .i64 f] w fun e w'=>e=.returned (.bool (qfm f))∧w'=w:=by
 go_enter func63,ntmps63;go_wp2
 all_goals go_ret
 all_goals exact⟨by simp[qfm, *],rfl⟩
theorem qha (f:Int)(w:World):Calls prog 44 #[.int .i64 f] w fun e w'=>e=.returned (.bool (qfm f))∧w'=w:=by
 go_enter func44,ntmps44;go_wp2
 all_goals go_ret
 all_goals exact⟨by simp[qfm, *],rfl⟩
def qf4 (i o d b:Int):Bool:=qfm i&&qfm o&&decide (1≤d)&&decide (d≤16)&&decide (1≤b)&&decide (b≤4096)
theorem qjH (i o d b:Int)(w:World):Calls prog 38 #[.int .i64 i,.int .i64 o,.int .i64 d,.int .i64 b] w fun e w'=>e=.returned (.bool (qf4 i o d b))∧w'=w:=by
 cases e1:qfm i
 ·have HF:Hid (qf4 i o d b=false):=by show _=_;unfold qf4;rw[e1];rfl
  go_enter func38,ntmps38;have T1:True:=trivial
  go_wp2_with (first
   |(go_at_call 63;clear T1;refine(qcX _ _).mono ?_;rintro e w2 ⟨rfl,rfl⟩))
  go_ret;exact⟨by rw[HF.out];rfl,rfl⟩
 cases e2:qfm o
 ·have HF:Hid (qf4 i o d b=false):=by show _=_;unfold qf4;rw[e1,e2];rfl
  go_enter func38,ntmps38
  go_wp2_with (first
   |(go_at_call 63;refine(qcX _ _).mono ?_;rintro e w2 ⟨rfl,rfl⟩))
  go_ret;exact⟨by rw[HF.out];rfl,rfl⟩
 have HF:Hid (qf4 i o d b=(decide (1≤d)&&decide (d≤16)&&decide (1≤b)&&decide (b≤4096))):=by show _=_;unfold qf4;rw[e1,e2];rfl
 go_enter func38,ntmps38
 go_wp2_with (first
  |(go_at_call 63;refine(qcX _ _).mono ?_;rintro e w2 ⟨rfl,rfl⟩))
 all_goals go_ret
 all_goals refine⟨?_,rfl⟩
 all_goals rw[HF.out]
 all_goals simp[*]
 all_goals (intros;omega)
end
end Go.Proofs.YtllcbnfmihfaaaaGreatDoor
