import Derived.Test.YtcokgepdckkjdaaGreatDoorRq17
set_option maxRecDepth 100000
set_option maxHeartbeats 8000000
namespace Go.Proofs.YtcokgepdckkjdaaGreatDoor
open Go.Proofs.Tryz
variable {A B C V V' W W':World}{b base m n size:Nat}{ks:List (List UInt8)}{v:Value}{xs:List Value}
section
open Go.RowKit Go.Lib
def qfg (bs:List UInt8)(lim:Int):Nat->Nat->List UInt8->Nat->Except (Int×Int) (List UInt8×Nat)
 |0,p,acc,wh=>if wh=acc.length then .ok (acc,p) else .error (9,(p:Int)-1)
 |k+1,p,acc,wh=>match bs[p]? with
  |none=>.error (9,p)
  |some c=>if (p:Int)=lim then .error (8,p) else if qc1 (acc.drop wh) c=0 then .error (9,p) else
   qfg bs lim k (p+1) (acc++[c]) (if qc1 (acc.drop wh) c=2 then acc.length+1 else wh)

end
section
open Go.RowKit
def qaE (W:World)(m:Nat)(ks:List (List UInt8)):Prop:=∃D,W.ownsMap prog 9 (unitElem (H:=Unit)) m ks.length D/\∀l:List UInt8,Maps.has D (.string l)=decide (l∈ks)
theorem qaE.kept {row:Option Nat}(h:qaE W m ks)(c:W.grownBy W' row)(d:some m≠row):qaE W' m ks:=by
 obtain⟨D,a,b⟩:=h;exact⟨D,a.kept c d,b⟩
theorem qic (l:List UInt8)(b:l.length<=1000000000):keyOf prog 9 (.string ⟨l.toArray⟩)=some (.string l):=by
 have a:(⟨l.toArray⟩:ByteArray).size<=maxLen:=by
  show l.toArray.size<=maxLen;rw[List.size_toArray];unfold maxLen;omega
 simp[keyOf,mapKey,underlying9,a]
theorem qht (W:World)(m:Nat)(ks:List (List UInt8))(l:List UInt8)(h:qaE W m ks)(f:l∈ks)(d:l.length<=1000000000):Calls prog 250 #[.map (some m),.string ⟨l.toArray⟩] W fun e a=>e=.returned (.bool false)/\Below W.heap.size W a:=by
 obtain⟨D,b,c⟩:=h;have j:(zeroValue 186).run prog W=.ok (.agg #[]) W:=by kernel_rfl
 obtain⟨v,k,g,i⟩:=b.look_ok (Maps.string_keyed underlying9) underlying345 j unitElem_mk (qic l d);obtain⟨rfl,_⟩:=unitElem_inv i;rw[c l,decide_eq_true f] at g;go_enter func250,ntmps250;go_wp2;go_ret;exact⟨rfl,bwA⟩
theorem ql3 (W:World)(m:Nat)(ks:List (List UInt8))(l:List UInt8)(h:qaE W m ks)(p:¬l∈ks)(x:ks.length<1000000000)(c:l.length<=1000000000):Calls prog 250 #[.map (some m),.string ⟨l.toArray⟩] W fun e g=>e=.returned (.bool true)/\qaE g m (l::ks)/\But m W g:=by
 obtain⟨D,b,i⟩:=h;have w:(zeroValue 186).run prog W=.ok (.agg #[]) W:=by kernel_rfl
 obtain⟨v,z,t,u⟩:=b.look_ok (Maps.string_keyed underlying9) underlying345 w unitElem_mk (qic l c);obtain⟨rfl,_⟩:=unitElem_inv u;rw[i l,decide_eq_false p] at t;obtain⟨j,y,s,n⟩:=(b.alloc (.cells #[] 186)).store (Maps.string_keyed underlying9) underlying345 (by unfold maxLen;omega) (qic l c) (val:=.agg #[]) (unitElem_mk (H:=Unit));have f:Hid (qaE j m (l::ks)/\But m W j):=by
  refine⟨⟨_,s,fun q => ?_⟩,?_⟩
  ·by_cases d:q=l
   ·subst d;rw[Maps.has_put_same b.isMap (Maps.string_keyed (P:=prog) underlying9 |>.key (qic q c))];simp
   rw[Maps.has_put_other (fun e=>d (by injection e)),i q];simp[d]
  have a:=n.grown;exact⟨a.os,a.tape,a.output,Nat.le_trans (by simp) a.size,fun k o r=>(a.block k (by simp;omega) (by simpa using r)).trans (Below.heap_alloc _ _ _ o)⟩
 go_enter func250,ntmps250;go_wp2;go_ret;exact⟨rfl,f.out.1,f.out.2⟩

def qb9 (rd:Nat->Except (Int×Int) (DataW Unit×Nat)):Nat->Nat->List (DataW Unit)->Except (Int×Int) (List (DataW Unit)×Nat)
 |0,p,acc=>.ok (acc,p)
 |k+1,p,acc=>match rd p with
  |.error e=>.error e
  |.ok (d,q)=>qb9 rd k q (acc++[d])
def qfr (hd:Nat->Nat×Nat×Nat)(bs:List UInt8)(lim:Int)(ks:List (List UInt8))(p:Nat):Except (Int×Int) (List UInt8×Nat) :=
 match bs[p]? with
 |none=>.error (9,p)
 |some c=>if (p:Int)=lim then .error (8,p) else if (hd c.toNat).1=8 then
   match qd9 bs lim (hd c.toNat).2.1 (p+1) (hd c.toNat).2.2 with
   |.error e=>.error e
   |.ok (x,q)=>match qfg bs lim x q [] 0 with
    |.error e=>.error e
    |.ok (l,r)=>if l∈ks then .error (12,(r:Int)-1) else .ok (l,r)
  else .error (9,p)
def qaI (kf:List (List UInt8)->Nat->Except (Int×Int) (List UInt8×Nat))(rd:Nat->Except (Int×Int) (DataW Unit×Nat)):Nat->Nat->List (List UInt8)->List (Lit×DataW Unit)->Except (Int×Int) (List (Lit×DataW Unit)×Nat)
 |0,p,_,acc=>.ok (acc,p)
 |k+1,p,ks,acc=>match kf ks p with
  |.error e=>.error e
  |.ok (l,q)=>match rd q with
   |.error e=>.error e
   |.ok (d,r)=>qaI kf rd k r (l::ks) (acc++[(.string l,d)])
def qjF (bs:List UInt8)(lim:Int)(li:Nat->Nat->Except (Int×Int) (List (DataW Unit)×Nat))(ma:Nat->Nat->Except (Int×Int) (List (Lit×DataW Unit)×Nat))(so w x q:Nat):Except (Int×Int) (DataW Unit×Nat) :=
 match so with
 |2=>.ok (.lit (.bool false),q)
 |3=>.ok (.lit (.bool true),q)
 |4=>match nbF 4 w x q with
  |.error e=>.error e
  |.ok z=>.ok (.lit (.int .i64 z),q)
 |5=>match nbF 5 w x q with
  |.error e=>.error e
  |.ok z=>.ok (.lit (.int .i64 z),q)
 |6=>match nbF 6 w x q with
  |.error e=>.error e
  |.ok z=>.ok (.lit (.int .i64 z),q)
 |7=>match qhb bs lim x q [] with
  |.error e=>.error e
  |.ok (l,r)=>.ok (.ptr (.lit (.string l)),r)
 |8=>match qfg bs lim x q [] 0 with
  |.error e=>.error e
  |.ok (l,r)=>.ok (.lit (.string l),r)
 |9=>match li x q with
  |.error e=>.error e
  |.ok (ds,r)=>.ok (.agg ds,r)
 |10=>match ma x q with
  |.error e=>.error e
  |.ok (es,r)=>.ok (.map es,r)
 |_=>.ok (.nil,q)
def thB (hd:Nat->Nat×Nat×Nat)(bs:List UInt8)(lim depth:Int):Nat->Nat->Nat->Except (Int×Int) (DataW Unit×Nat)
 |0,_,_=>.error (0,0)
 |g+1,wi,p=>match bs[p]? with
  |none=>.error (9,p)
  |some c=>if (p:Int)=lim then .error (8,p) else if (hd c.toNat).1=0 then .error (9,p) else
   if ((hd c.toNat).1=9\/(hd c.toNat).1=10)/\(wi:Int)=depth then .error (11,p) else
   match qd9 bs lim (hd c.toNat).2.1 (p+1) (hd c.toNat).2.2 with
   |.error e=>.error e
   |.ok (x,q)=>qjF bs lim (fun x q=>qb9 (thB hd bs lim depth g (wi+1)) x q []) (fun x q=>qaI (qfr hd bs lim) (thB hd bs lim depth g (wi+1)) x q [] []) (hd c.toNat).1 (hd c.toNat).2.1 x q

theorem qcM {t:TypeId}(h:W.ownsRow base t size v n xs)(k:But b W W')(m:b<base):W'.ownsRow base t size v n xs:=by
 obtain⟨i,a⟩:=h;refine⟨i,?_⟩;rcases a with a|⟨g,d,f,e,l,c,j⟩
 ·exact .inl a
 exact .inr ⟨g,d,f,e,l,(k.block g (ltA c) (by omega)).trans c,j⟩
theorem qhh {t:TypeId}(h:V.ownsRow base t size v n xs):∀g,v.ownBlock=some g->g<V.heap.size:=fun g a=>by
 rcases h.2 with ⟨b,_⟩|⟨f,d,e,rfl,i,c,_⟩
 ·subst b;cases a
 cases a;exact ltA c
theorem Tryz.infoThing:(prog.info? 104).map (fun i=>(i.zero,i.size,i.bytes))=some (some .nilIface,1,16):=by kernel_rfl

structure qiO (b m:Nat)(W W':World):Prop where
 os:W'.os=W.os
 tape:W'.tape=W.tape
 output:W'.output=W.output
 size:W.heap.size<=W'.heap.size
 block:∀k,k<W.heap.size->k≠b->k≠m->W'.heap[k]? = W.heap[k]?
theorem qiO.of1 (h:But b W W'):qiO b m W W':=⟨h.os,h.tape,h.output,h.size,fun k a c _=>h.block k a c⟩
theorem qiO.of2 (h:But m W W'):qiO b m W W':=⟨h.os,h.tape,h.output,h.size,fun k a _ c=>h.block k a c⟩
theorem qiO.trans (h:qiO b m A B)(k:qiO b m B C):qiO b m A C :=
 ⟨k.os.trans h.os,k.tape.trans h.tape,k.output.trans h.output,Nat.le_trans h.size k.size,fun i d a c=>(k.block i (by have:=h.size;omega) a c).trans (h.block i d a c)⟩
theorem qad.off {s:Src}(h:qad V b s)(k:m≠b)(hi:∀g off,s.bs≠[]->s.ia=some ⟨g,off,none⟩->g≠m)(d:But m V V'):qad V' b s :=
 ⟨(d.block b (ltA h.row) (Ne.symm k)).trans h.row,fun i f=>by
  obtain⟨g,off,a,j,c⟩:=h.inp i f;exact⟨g,off,a,j,(World.cell?_of_block (w:=V) (d.block g (block_lt_of_cell c) (hi g off (fun e=>by simp[e] at f) a))).trans c⟩,h.len,h.le⟩
theorem qaE.but (h:qaE V m ks)(d:m≠b)(a:But b V V'):qaE V' m ks :=
 h.kept (row:=some b) ⟨a.os,a.tape,a.output,a.size,fun k c f=>a.block k c (fun e=>f (by rw[e]))⟩ (fun e=>d (by injection e))

def qcq (k:Nat)(V:World)(F:Nat->Prop)(xs:List Value)(es:List (Lit×DataW Unit)):Prop :=
 ∀(i:Nat) (key:Lit) (d:DataW Unit),es[i]? = some (key,d)->∃l x,key=.string l/\xs[2*i]? = some (.string ⟨l.toArray⟩)/\xs[2*i+1]? = some x/\qai k V F x d
theorem qcq.same {k:Nat}{F G:Nat->Prop}{es:List (Lit×DataW Unit)}(h:qcq k V F xs es)(f:∀k,F k->G k)(j:∀k,F k->V'.heap[k]? = V.heap[k]?):qcq k V' G xs es:=fun i key d g=>by
 obtain⟨l,x,a,b,c,e⟩:=h i key d g;exact⟨l,x,a,b,c,e.same f j⟩
theorem But.trans' (h:But b A B)(k:qiO b m B C)(d:A.heap.size<=m:=by omega):But b A C :=
 ⟨k.os.trans h.os,k.tape.trans h.tape,k.output.trans h.output,Nat.le_trans h.size k.size,fun i c a=>(k.block i (by have:=h.size;omega) a (by omega)).trans (h.block i c a)⟩
theorem qeO {t:TypeId}(h:W.ownsRow base t size v n xs)(k:qiO b m W W')(p:b<base)(o:m<base):W'.ownsRow base t size v n xs:=by
 obtain⟨i,a⟩:=h;refine⟨i,?_⟩;rcases a with a|⟨g,d,f,e,l,c,j⟩
 ·exact .inl a
 exact .inr ⟨g,d,f,e,l,(k.block g (ltA c) (by omega) (by omega)).trans c,j⟩
theorem Tryz.infoEntry:(prog.info? 228).map (fun i=>(i.zero,i.size,i.bytes))=some (some (.agg #[.string ByteArray.empty,.nilIface]),2,32):=by kernel_rfl

def qgW {α:Type}(bs:List UInt8)(lim:Int)(itF:α->Nat->Except (Int×Int) (α×Nat))(last:Nat):Nat->Nat->α->Except (Int×Int) (α×Nat)
 |0,p,_=>.error (9,p)
 |g+1,p,acc=>match spF bs lim (bs.length+1-p) p with
  |.error e=>.error e
  |.ok (_,p1)=>match itF acc p1 with
   |.error e=>.error e
   |.ok (acc',p2)=>match spF bs lim (bs.length+1-p2) p2 with
    |.error e=>.error e
    |.ok (_,p3)=>match bs[p3]? with
     |none=>.error (9,p3)
     |some c=>if (p3:Int)=lim then .error (8,p3) else if c.toNat=last then .ok (acc',p3+1) else if c.toNat=44 then qgW bs lim itF last g (p3+1) acc' else .error (9,p3)
def qe4 {α:Type}(bs:List UInt8)(lim:Int)(itF:α->Nat->Except (Int×Int) (α×Nat))(last p:Nat)(acc:α):Except (Int×Int) (α×Nat) :=
 match spF bs lim (bs.length+1-p) p with
 |.error e=>.error e
 |.ok (_,p1)=>match bs[p1]? with
  |none=>qgW bs lim itF last (bs.length+1-p1) p1 acc
  |some c=>if (p1:Int)=lim then .error (8,p1) else if c.toNat=last then .ok (acc,p1+1) else qgW bs lim itF last (bs.length+1-p1) p1 acc
def liJ (rd:Nat->Except (Int×Int) (DataW Unit×Nat))(ds:List (DataW Unit))(p:Nat):Except (Int×Int) (List (DataW Unit)×Nat) :=
 match rd p with
 |.error e=>.error e
 |.ok (d,q)=>.ok (ds++[d],q)
def qmo (bs:List UInt8)(lim:Int)(ks:List (List UInt8))(p:Nat):Except (Int×Int) (List UInt8×Nat) :=
 match qaT bs lim [34] p with
 |.error e=>.error e
 |.ok (_,q)=>match qfe bs lim (bs.length+1-q) q [] 0 with
  |.error e=>.error e
  |.ok (l,r)=>if l∈ks then .error (12,(r:Int)-1) else .ok (l,r)
def enJ (bs:List UInt8)(lim:Int)(rd:Nat->Except (Int×Int) (DataW Unit×Nat))(a:List (List UInt8)×List (Lit×DataW Unit))(p:Nat):Except (Int×Int) ((List (List UInt8)×List (Lit×DataW Unit))×Nat) :=
 match qmo bs lim a.1 p with
 |.error e=>.error e
 |.ok (l,p1)=>match spF bs lim (bs.length+1-p1) p1 with
  |.error e=>.error e
  |.ok (_,p2)=>match qaT bs lim [58] p2 with
   |.error e=>.error e
   |.ok (_,p3)=>match spF bs lim (bs.length+1-p3) p3 with
    |.error e=>.error e
    |.ok (_,p4)=>match rd p4 with
     |.error e=>.error e
     |.ok (d,p5)=>.ok ((l::a.1,a.2++[(.string l,d)]),p5)
def qqi (bs:List UInt8)(lim depth:Int)(wi:Nat)(rd:Nat->Except (Int×Int) (DataW Unit×Nat))(nm:UInt8->Nat->Except (Int×Int) (Int×Nat))(c:UInt8)(p:Nat):Except (Int×Int) (DataW Unit×Nat) :=
 if c.toNat=110 then match qaT bs lim [117,108,108] p with
  |.error e=>.error e
  |.ok (_,q)=>.ok (.nil,q)
 else if c.toNat=116 then match qaT bs lim [114,117,101] p with
  |.error e=>.error e
  |.ok (_,q)=>.ok (.lit (.bool true),q)
 else if c.toNat=102 then match qaT bs lim [97,108,115,101] p with
  |.error e=>.error e
  |.ok (_,q)=>.ok (.lit (.bool false),q)
 else if c.toNat=34 then match qfe bs lim (bs.length+1-p) p [] 0 with
  |.error e=>.error e
  |.ok (l,q)=>.ok (.lit (.string l),q)
 else if c.toNat=91 then (if (wi:Int)=depth then .error (11,(p:Int)-1) else match qe4 bs lim (liJ rd) 93 p [] with
  |.error e=>.error e
  |.ok (ds,q)=>.ok (.agg ds,q))
 else if c.toNat=123 then (if (wi:Int)=depth then .error (11,(p:Int)-1) else match qe4 bs lim (enJ bs lim rd) 125 p ([],[]) with
  |.error e=>.error e
  |.ok (es,q)=>.ok (.map es.2,q))
 else if c.toNat=45\/qcQ c=true then match nm c p with
  |.error e=>.error e
  |.ok (z,q)=>.ok (.lit (.int .i64 z),q)
 else .error (9,(p:Int)-1)
def thJ (bs:List UInt8)(lim depth:Int)(nm:UInt8->Nat->Except (Int×Int) (Int×Nat)):Nat->Nat->Nat->Except (Int×Int) (DataW Unit×Nat)
 |0,_,_=>.error (0,0)
 |g+1,wi,p=>match bs[p]? with
  |none=>.error (9,p)
  |some c=>if (p:Int)=lim then .error (8,p) else qqi bs lim depth wi (thJ bs lim depth nm g (wi+1)) nm c (p+1)
def qc7 (k:Nat)(W:World)(b:Nat)(s:Src)(r:Except (Int×Int) (DataW Unit×Nat))(e:Ending)(W':World):Prop :=
 But b W W'/\match r with
 |.ok (d,p)=>(∃t y,e=.returned (.iface t y)/\qai k W' (fun j=>W.heap.size<=j/\j<W'.heap.size) (.iface t y) d)/\qad W' b {s with pos:=p}
 |.error (en,pl)=>qao en pl e
def qgg (k b:Nat)(s:Src)(W0:World)(rd:Nat->Except (Int×Int) (DataW Unit×Nat)):Prop :=
 ∀(V:World) (p:Nat),qad V b {s with pos:=p}->But b W0 V->Calls prog 228 #[.agg #[.pointer (some ⟨b,0,none⟩)]] V (qc7 k V b {s with pos:=p} (rd p))

def qc9 {α:Type}(St:Nat->α->World->Prop)(Fr:World->Prop)(r:Except (Int×Int) (α×Nat))(e:Ending)(V:World):Prop :=
 match r with
 |.ok (a,q)=>e=.returned (.tuple #[])/\St q a V
 |.error (en,pl)=>qao en pl e/\Fr V
structure qhI {α:Type}(b:Nat)(s:Src)(St:Nat->Nat->Nat->α->World->Prop)(Fr:World->Prop):Prop where
 src:∀N wi p a V,St N wi p a V->qad V b {s with pos:=p,within:=wi}
 step:∀N wi p a V wi' q V',St N wi p a V->qad V' b {s with pos:=q,within:=wi' }->But b V V'->p<=q->St N wi' q a V'
 box:∀N wi p a V,St N wi p a V->V.heap[N]? = some (.cells #[.pointer (some ⟨b,0,none⟩)] 213)
 fr:∀N wi p a V,St N wi p a V->Fr V
 frb:∀V V',Fr V->But b V V'->Fr V'
theorem qcm (bs:List UInt8)(lim:Int):∀(g p:Nat) (u:Unit) (q:Nat),spF bs lim g p=.ok (u,q)->p<=q
 |0,p,u,q,h=>by
  rw[spF] at h;injection h with h;injection h with h1 h2;omega
 |g+1,p,u,q,h=>by
  rw[spF] at h;split at h
  ·injection h with h;injection h with h1 h2;omega
  split at h
  ·cases h
  split at h
  ·have:=qcm bs lim g (p+1) u q h;omega
  injection h with h;injection h with h1 h2;omega
theorem qgM {α:Type}(W:World)(b L r:Nat)(s:Src)(F:α->Nat->Except (Int×Int) (α×Nat))(K:α)(B:Nat->Nat->Nat->α->World->Prop)(Z:World->Prop)(hI:qhI b s B Z)(h:qad W b s)(hd:¬(s.within:Int)=s.depth)(a7:s.within<=100000)(a1:B W.heap.size s.within s.pos K (W.alloc (.cells #[.pointer (some ⟨b,0,none⟩)] 213)))(ag:∀ai p a V,B ai (s.within+1) p a V->Calls prog 242 #[.pointer (some ⟨L,0,none⟩),.pointer (some ⟨r,0,none⟩)] V (qc9 (B ai (s.within+1)) Z (F a p)))(a0:∀a p N ac,F a p=.ok (N,ac)->p<ac):Calls prog 241 #[.agg #[.pointer (some ⟨b,0,none⟩)],.int .u8 93,.func (.func 242) #[] #[.pointer (some ⟨L,0,none⟩),.pointer (some ⟨r,0,none⟩)]] W (qc9 (fun ac a V=>B W.heap.size s.within ac a V) Z (qe4 s.bs s.lim F 93 s.pos K)):=by
 have HS:=qaa a1;have f:=qaa hI;have ar:=qaa a0;have cE:=qin (W.alloc (.cells #[.pointer (some ⟨b,0,none⟩)] 213)) b s (h.below bwA) hd (by omega);have v:∀(V:World) (p:Nat),qad V b {s with pos:=p,within:=s.within+1}->Calls prog 249 #[.pointer (some ⟨b,0,none⟩)] V fun e Q=>e=.returned (.tuple #[])/\qad Q b {s with pos:=p}/\But b V Q:=fun V p k=>qj2 V b s.within {s with pos:=p,within:=s.within+1} k rfl (by show s.within+1<=_;omega);obtain⟨R,J⟩:∃R,Hid (qe4 s.bs s.lim F 93 s.pos K=R):=⟨_,show _=_ from rfl⟩
 rw[J.out];have d:=J.out;unfold qe4 at d;have t:=qab (f.out.box _ _ _ _ _ HS.out) 0;go_enter func241,ntmps241;go_wp2;go_step3
 go_wp2_with fail
 refine cE.mono ?_;rintro e w2 ⟨rfl,az,av⟩;have u:=qaa (f.out.step _ _ _ _ _ _ _ _ HS.out az av (by omega));have t:=qab (f.out.box _ _ _ _ _ u.out) 0
 go_wp2_with fail
 refine(qaN w2 b {s with pos:=s.pos,within:=s.within+1} (f.out.src _ _ _ _ _ u.out)).mono ?_;rintro e w3 ⟨aj,q⟩
 cases w:spF s.bs s.lim (s.bs.length+1-s.pos) s.pos with
 |error D =>
  obtain⟨C,G⟩:=D;simp only[w] at d q;subst d;obtain rfl:=(show qao C G e from q)
  go_wp2;exact⟨rfl,rfl,f.out.frb _ _ (f.out.fr _ _ _ _ _ u.out) aj⟩
 |ok up =>
  obtain⟨a8,i⟩:=up;simp only[w] at d q;have a3:=qcm _ _ _ _ _ _ w;obtain⟨rfl,am⟩:=(show e=.returned (.tuple #[])/\qad w3 b {s with pos:=i,within:=s.within+1} from q)
  have y:=qaa (f.out.step _ _ _ _ _ _ _ _ u.out am aj (by omega));have ah:Hid (i<=s.bs.length):=am.le;have t:=qab (f.out.box _ _ _ _ _ y.out) 0;have a2:(quZ {s with pos:=i,within:=s.within+1}/\R=.error (8,(i:Int)))\/(∃c,qfp {s with pos:=i,within:=s.within+1} c/\c.toNat=93/\R=.ok (K,i+1))\/((Calls prog 236 #[.pointer (some ⟨b,0,none⟩),.int .u8 93] w3 fun e Q=>e=.returned (.bool false)/\qad Q b {s with pos:=i,within:=s.within+1}/\But b w3 Q)/\qgW s.bs s.lim F 93 (s.bs.length+1-i) i K=R):=by
   have k:=(f.out.src _ _ _ _ _ y.out)
   cases l:s.bs[i]? with
   |none =>
    rw[l] at d;refine .inr (.inr ⟨qij 93 k ?_,d⟩);have x:i<=s.bs.length:=k.le;have M:=List.getElem?_eq_none_iff.1 l;show i=s.bs.length;omega
   |some c =>
    rw[l] at d;simp only[] at d;have M:=ltL l;by_cases o:(i:Int)=s.lim
    ·rw[if_pos o] at d;exact .inl ⟨⟨M,o⟩,d.symm⟩
    rw[if_neg o] at d;by_cases m:c.toNat=93
    ·rw[if_pos m] at d;exact .inr (.inl ⟨c,⟨l,o⟩,m,d.symm⟩)
    rw[if_neg m] at d;refine .inr (.inr ⟨?_,d⟩);have:=qdw (c:=c) 93 k ⟨l,o⟩;rwa [show((c.toNat:Int)==93)=false by simp;omega] at this
  go_wp2_with fail
  rcases a2 with ⟨ay,rfl⟩|⟨c,al,hc,rfl⟩|⟨cF,d⟩
  ·refine(qdd w3 b {s with pos:=i,within:=s.within+1} 93 (f.out.src _ _ _ _ _ y.out) ay).mono ?_;rintro e w4 ⟨rfl,T⟩;go_wp2;exact⟨rfl,rfl,f.out.frb _ _ (f.out.fr _ _ _ _ _ y.out) (But.of_below T)⟩
  ·have cF:=qdw (c:=c) 93 (f.out.src _ _ _ _ _ y.out) al;rw[show((c.toNat:Int)==93)=true by rw[hc];rfl] at cF;refine cF.mono ?_;rintro e w4 ⟨rfl,ae,T⟩;have n:=qaa (f.out.step _ _ _ _ _ _ _ _ y.out ae T (by omega));have t:=qab (f.out.box _ _ _ _ _ n.out) 0
   go_wp2_with fail
   refine(qau w4 b {s with pos:=i,within:=s.within+1} c (f.out.src _ _ _ _ _ n.out) al).mono ?_;rintro e w5 ⟨rfl,aa,U⟩;have H:=qaa (f.out.step _ _ _ _ _ _ _ _ n.out (show qad w5 b {s with pos:=i+1,within:=s.within+1} from aa) U (by omega));have t:=qab (f.out.box _ _ _ _ _ H.out) 0
   go_wp2_with fail
   refine(v w5 (i+1) (f.out.src _ _ _ _ _ H.out)).mono ?_;rintro e w6 ⟨rfl,ab,aw⟩;have z:=qaa (f.out.step _ _ _ _ _ _ _ _ H.out ab aw (by omega));go_wp2;refine qfO ?_;go_end0;exact⟨rfl,z.out⟩
  have J:=qaa d;refine cF.mono ?_;rintro e w4 ⟨rfl,ae,T⟩;have n:=qaa (f.out.step _ _ _ _ _ _ _ _ y.out ae T (by omega));go_wp2;go_step3;go_wp2
  go_loopg [21] (s.bs.length+1-i) (fun g _ wr=>∃(p:Nat) (a:α),Hid (s.bs.length+1<=p+g)/\Hid (p<=s.bs.length)/\Hid (B W.heap.size (s.within+1) p a wr)/\Hid (qgW s.bs s.lim F 93 g p a=R))
  case atStart=>exact⟨i,K,by show _<=_;have:=ah.out;omega,ah,n,J⟩
  case round =>
   obtain⟨p,a,hg,hp,n,J⟩:=hrel;obtain⟨g,rfl⟩:∃g,gk=g+1:=⟨gk-1,by have:=hg.out;have:=hp.out;omega⟩
   have t:=qab (f.out.box _ _ _ _ _ n.out) 0;have d:=J.out;rw[qgW] at d
   go_wp2_with fail
   refine(qaN wr b {s with pos:=p,within:=s.within+1} (f.out.src _ _ _ _ _ n.out)).mono ?_;rintro e w5 ⟨U,X⟩
   cases w:spF s.bs s.lim (s.bs.length+1-p) p with
   |error D =>
    obtain⟨C,G⟩:=D;simp only[w] at d X;subst d;clear w ag v;obtain rfl:=(show qao C G e from X)
    go_wp2;exact⟨rfl,rfl,f.out.frb _ _ (f.out.fr _ _ _ _ _ n.out) U⟩
   |ok up =>
    obtain⟨u1,q1⟩:=up;simp only[w] at d X;have a4:=qcm _ _ _ _ _ _ w;clear w;obtain⟨rfl,aa⟩:=(show e=.returned (.tuple #[])/\qad w5 b {s with pos:=q1,within:=s.within+1} from X)
    have H:=qaa (f.out.step _ _ _ _ _ _ _ _ n.out aa U (by omega));clear n aa U X
    go_wp2_with fail
    refine(ag _ _ _ _ H.out).mono ?_;clear ag;rintro e w6 E
    cases l:F a q1 with
    |error D =>
     obtain⟨C,G⟩:=D;rw[l] at d E;simp only[] at d;subst d;clear l v;obtain⟨E,ax⟩:=(show qao C G e/\Z w6 from E)
     obtain rfl:=E;go_wp2;exact⟨rfl,rfl,ax⟩
    |ok aq =>
     obtain⟨N,q2⟩:=aq;rw[l] at d E;simp only[] at d;have a5:=ar.out _ _ _ _ l;clear l;obtain⟨rfl,ab⟩:=(show e=.returned (.tuple #[])/\B W.heap.size (s.within+1) q2 N w6 from E)
     have z:=qaa ab;clear H E ab;have t:=qab (f.out.box _ _ _ _ _ z.out) 0
     go_wp2_with fail
     refine(qaN w6 b {s with pos:=q2,within:=s.within+1} (f.out.src _ _ _ _ _ z.out)).mono ?_;clear t;rintro e w7 ⟨ad,Y⟩
     cases o:spF s.bs s.lim (s.bs.length+1-q2) q2 with
     |error D =>
      obtain⟨C,G⟩:=D;simp only[o] at d Y;subst d;clear o v;obtain rfl:=(show qao C G e from Y)
      go_wp2;exact⟨rfl,rfl,f.out.frb _ _ (f.out.fr _ _ _ _ _ z.out) ad⟩
     |ok up =>
      obtain⟨u3,j⟩:=up;simp only[o] at d Y;have a6:=qcm _ _ _ _ _ _ o;clear o;obtain⟨rfl,an⟩:=(show e=.returned (.tuple #[])/\qad w7 b {s with pos:=j,within:=s.within+1} from Y)
      have I:=qaa (f.out.step _ _ _ _ _ _ _ _ z.out an ad (by omega));clear z an ad Y;have t:=qab (f.out.box _ _ _ _ _ I.out) 0
      go_wp2_with fail
      have k:=(f.out.src _ _ _ _ _ I.out)
      cases m:s.bs[j]? with
      |none =>
       simp only[m] at d;subst d;refine(qbm w7 b {s with pos:=j,within:=s.within+1} k (by show j=s.bs.length;have x:j<=s.bs.length:=k.le;have M:=List.getElem?_eq_none_iff.1 m;omega)).mono ?_;clear m v k;rintro e w8 ⟨rfl,P⟩;go_wp2;exact⟨rfl,rfl,f.out.frb _ _ (f.out.fr _ _ _ _ _ I.out) (But.of_below P)⟩
      |some c =>
       rw[m] at d;simp only[] at d;have M:=ltL m;by_cases x:(j:Int)=s.lim
       ·rw[if_pos x] at d;subst d;refine(qaP w7 b {s with pos:=j,within:=s.within+1} k ⟨M,x⟩).mono ?_;clear m x M v k;rintro e w8 ⟨rfl,P⟩;go_wp2;exact⟨rfl,rfl,f.out.frb _ _ (f.out.fr _ _ _ _ _ I.out) (But.of_below P)⟩
       rw[if_neg x] at d;refine(qau w7 b {s with pos:=j,within:=s.within+1} c k ⟨m,x⟩).mono ?_;clear m x t k;rintro e w8 ⟨rfl,af,P⟩;have A:=qaa (f.out.step _ _ _ _ _ _ _ _ I.out (show qad w8 b {s with pos:=j+1,within:=s.within+1} from af) P (by omega));have au:Hid (j+1<=s.bs.length):=af.le;clear I af P;have t:=qab (f.out.box _ _ _ _ _ A.out) 0;by_cases O:c.toNat=93
       ·rw[if_pos O] at d;subst d;have e1:((c.toNat:Int)==93)=true:=by rw[O];rfl
        clear O
        go_wp2_with fail
        refine(v w8 (j+1) (f.out.src _ _ _ _ _ A.out)).mono ?_;clear v t;rintro e w9 ⟨rfl,ao,ak⟩;have H9:=qaa (f.out.step _ _ _ _ _ _ _ _ A.out ao ak (by omega));clear A ao ak;go_wp2
        first|(refine qfO ?_;go_end0)|go_end0
        exact⟨rfl,H9.out⟩
       rw[if_neg O] at d;have e1:=nec (c:=c) 93 (by omega);by_cases S:c.toNat=44
       ·rw[if_pos S] at d;have HN:=qaa d;have e2:((c.toNat:Int)==44)=true:=by rw[S];rfl
        have ap:Hid (s.bs.length+1<=(j+1)+g):=by show _<=_;have:=hg.out;omega
        clear O S d v;go_wp2;go_roundg g
        case measure=>omega
        case rel=>exact⟨j+1,N,ap,au,A,HN⟩
       rw[if_neg S] at d;subst d;have e2:=nec (c:=c) 44 (by omega);have cR:=qat w8 b {s with pos:=j+1,within:=s.within+1} 9 (f.out.src _ _ _ _ _ A.out);rw[show((({s with pos:=j+1,within:=s.within+1}:Src).pos:Int)-1)=j by show(((j+1:Nat)):Int)-1=j;omega] at cR;clear O S v
       go_wp2_with fail
       refine cR.mono ?_;rintro e w9 ⟨rfl,rfl⟩;go_wp2;exact⟨rfl,rfl,f.out.fr _ _ _ _ _ A.out⟩

theorem qhR {α:Type}(W:World)(b L r m:Nat)(s:Src)(G:α->Nat->Except (Int×Int) (α×Nat))(M:α)(C:Nat->Nat->Nat->α->World->Prop)(u:World->Prop)(hI:qhI b s C u)(h:qad W b s)(hd:¬(s.within:Int)=s.depth)(a7:s.within<=100000)(a1:C W.heap.size s.within s.pos M (W.alloc (.cells #[.pointer (some ⟨b,0,none⟩)] 213)))(ag:∀ai p a V,C ai (s.within+1) p a V->Calls prog 243 #[.pointer (some ⟨r,0,none⟩),.pointer (some ⟨m,0,none⟩),.pointer (some ⟨L,0,none⟩)] V (qc9 (C ai (s.within+1)) u (G a p)))(a0:∀a p a' ac,G a p=.ok (a',ac)->p<ac):Calls prog 241 #[.agg #[.pointer (some ⟨b,0,none⟩)],.int .u8 125,.func (.func 243) #[] #[.pointer (some ⟨r,0,none⟩),.pointer (some ⟨m,0,none⟩),.pointer (some ⟨L,0,none⟩)]] W (qc9 (fun ac a V=>C W.heap.size s.within ac a V) u (qe4 s.bs s.lim G 125 s.pos M)):=by
 have HS:=qaa a1;have f:=qaa hI;have ar:=qaa a0;have cE:=qin (W.alloc (.cells #[.pointer (some ⟨b,0,none⟩)] 213)) b s (h.below bwA) hd (by omega);have w:∀(V:World) (p:Nat),qad V b {s with pos:=p,within:=s.within+1}->Calls prog 249 #[.pointer (some ⟨b,0,none⟩)] V fun e S=>e=.returned (.tuple #[])/\qad S b {s with pos:=p}/\But b V S:=fun V p k=>qj2 V b s.within {s with pos:=p,within:=s.within+1} k rfl (by show s.within+1<=_;omega);obtain⟨R,K⟩:∃R,Hid (qe4 s.bs s.lim G 125 s.pos M=R):=⟨_,show _=_ from rfl⟩
 rw[K.out];have d:=K.out;unfold qe4 at d;have v:=qab (f.out.box _ _ _ _ _ HS.out) 0;go_enter func241,ntmps241;go_wp2;go_step3
 go_wp2_with fail
 refine cE.mono ?_;rintro e w2 ⟨rfl,az,av⟩;have N:=qaa (f.out.step _ _ _ _ _ _ _ _ HS.out az av (by omega));have v:=qab (f.out.box _ _ _ _ _ N.out) 0
 go_wp2_with fail
 refine(qaN w2 b {s with pos:=s.pos,within:=s.within+1} (f.out.src _ _ _ _ _ N.out)).mono ?_;rintro e w3 ⟨aj,q⟩
 cases x:spF s.bs s.lim (s.bs.length+1-s.pos) s.pos with
 |error E =>
  obtain⟨D,H⟩:=E;simp only[x] at d q;subst d;obtain rfl:=(show qao D H e from q)
  go_wp2;exact⟨rfl,rfl,f.out.frb _ _ (f.out.fr _ _ _ _ _ N.out) aj⟩
 |ok up =>
  obtain⟨a8,i⟩:=up;simp only[x] at d q;have a3:=qcm _ _ _ _ _ _ x;obtain⟨rfl,am⟩:=(show e=.returned (.tuple #[])/\qad w3 b {s with pos:=i,within:=s.within+1} from q)
  have z:=qaa (f.out.step _ _ _ _ _ _ _ _ N.out am aj (by omega));have ah:Hid (i<=s.bs.length):=am.le;have v:=qab (f.out.box _ _ _ _ _ z.out) 0;have a2:(quZ {s with pos:=i,within:=s.within+1}/\R=.error (8,(i:Int)))\/(∃c,qfp {s with pos:=i,within:=s.within+1} c/\c.toNat=125/\R=.ok (M,i+1))\/((Calls prog 236 #[.pointer (some ⟨b,0,none⟩),.int .u8 125] w3 fun e S=>e=.returned (.bool false)/\qad S b {s with pos:=i,within:=s.within+1}/\But b w3 S)/\qgW s.bs s.lim G 125 (s.bs.length+1-i) i M=R):=by
   have k:=(f.out.src _ _ _ _ _ z.out)
   cases l:s.bs[i]? with
   |none =>
    rw[l] at d;refine .inr (.inr ⟨qij 125 k ?_,d⟩);have y:i<=s.bs.length:=k.le;have O:=List.getElem?_eq_none_iff.1 l;show i=s.bs.length;omega
   |some c =>
    rw[l] at d;simp only[] at d;have O:=ltL l;by_cases t:(i:Int)=s.lim
    ·rw[if_pos t] at d;exact .inl ⟨⟨O,t⟩,d.symm⟩
    rw[if_neg t] at d;by_cases n:c.toNat=125
    ·rw[if_pos n] at d;exact .inr (.inl ⟨c,⟨l,t⟩,n,d.symm⟩)
    rw[if_neg n] at d;refine .inr (.inr ⟨?_,d⟩);have:=qdw (c:=c) 125 k ⟨l,t⟩;rwa [show((c.toNat:Int)==125)=false by simp;omega] at this
  go_wp2_with fail
  rcases a2 with ⟨ay,rfl⟩|⟨c,al,hc,rfl⟩|⟨cF,d⟩
  ·refine(qdd w3 b {s with pos:=i,within:=s.within+1} 125 (f.out.src _ _ _ _ _ z.out) ay).mono ?_;rintro e w4 ⟨rfl,U⟩;go_wp2;exact⟨rfl,rfl,f.out.frb _ _ (f.out.fr _ _ _ _ _ z.out) (But.of_below U)⟩
  ·have cF:=qdw (c:=c) 125 (f.out.src _ _ _ _ _ z.out) al;rw[show((c.toNat:Int)==125)=true by rw[hc];rfl] at cF;refine cF.mono ?_;rintro e w4 ⟨rfl,ae,U⟩;have o:=qaa (f.out.step _ _ _ _ _ _ _ _ z.out ae U (by omega));have v:=qab (f.out.box _ _ _ _ _ o.out) 0
   go_wp2_with fail
   refine(qau w4 b {s with pos:=i,within:=s.within+1} c (f.out.src _ _ _ _ _ o.out) al).mono ?_;rintro e w5 ⟨rfl,aa,X⟩;have I:=qaa (f.out.step _ _ _ _ _ _ _ _ o.out (show qad w5 b {s with pos:=i+1,within:=s.within+1} from aa) X (by omega));have v:=qab (f.out.box _ _ _ _ _ I.out) 0
   go_wp2_with fail
   refine(w w5 (i+1) (f.out.src _ _ _ _ _ I.out)).mono ?_;rintro e w6 ⟨rfl,ab,aw⟩;have A:=qaa (f.out.step _ _ _ _ _ _ _ _ I.out ab aw (by omega));go_wp2;refine qfO ?_;go_end0;exact⟨rfl,A.out⟩
  have K:=qaa d;refine cF.mono ?_;rintro e w4 ⟨rfl,ae,U⟩;have o:=qaa (f.out.step _ _ _ _ _ _ _ _ z.out ae U (by omega));go_wp2;go_step3;go_wp2
  go_loopg [21] (s.bs.length+1-i) (fun g _ wr=>∃(p:Nat) (a:α),Hid (s.bs.length+1<=p+g)/\Hid (p<=s.bs.length)/\Hid (C W.heap.size (s.within+1) p a wr)/\Hid (qgW s.bs s.lim G 125 g p a=R))
  case atStart=>exact⟨i,M,by show _<=_;have:=ah.out;omega,ah,o,K⟩
  case round =>
   obtain⟨p,a,hg,hp,o,K⟩:=hrel;obtain⟨g,rfl⟩:∃g,gk=g+1:=⟨gk-1,by have:=hg.out;have:=hp.out;omega⟩
   have v:=qab (f.out.box _ _ _ _ _ o.out) 0;have d:=K.out;rw[qgW] at d
   go_wp2_with fail
   refine(qaN wr b {s with pos:=p,within:=s.within+1} (f.out.src _ _ _ _ _ o.out)).mono ?_;rintro e w5 ⟨X,Y⟩
   cases x:spF s.bs s.lim (s.bs.length+1-p) p with
   |error E =>
    obtain⟨D,H⟩:=E;simp only[x] at d Y;subst d;clear x ag w;obtain rfl:=(show qao D H e from Y)
    go_wp2;exact⟨rfl,rfl,f.out.frb _ _ (f.out.fr _ _ _ _ _ o.out) X⟩
   |ok up =>
    obtain⟨u1,q1⟩:=up;simp only[x] at d Y;have a4:=qcm _ _ _ _ _ _ x;clear x;obtain⟨rfl,aa⟩:=(show e=.returned (.tuple #[])/\qad w5 b {s with pos:=q1,within:=s.within+1} from Y)
    have I:=qaa (f.out.step _ _ _ _ _ _ _ _ o.out aa X (by omega));clear o aa X Y
    go_wp2_with fail
    refine(ag _ _ _ _ I.out).mono ?_;clear ag;rintro e w6 F
    cases l:G a q1 with
    |error E =>
     obtain⟨D,H⟩:=E;rw[l] at d F;simp only[] at d;subst d;clear l w;obtain⟨F,ax⟩:=(show qao D H e/\u w6 from F)
     obtain rfl:=F;go_wp2;exact⟨rfl,rfl,ax⟩
    |ok aq =>
     obtain⟨a',q2⟩:=aq;rw[l] at d F;simp only[] at d;have a5:=ar.out _ _ _ _ l;clear l;obtain⟨rfl,ab⟩:=(show e=.returned (.tuple #[])/\C W.heap.size (s.within+1) q2 a' w6 from F)
     have A:=qaa ab;clear I F ab;have v:=qab (f.out.box _ _ _ _ _ A.out) 0
     go_wp2_with fail
     refine(qaN w6 b {s with pos:=q2,within:=s.within+1} (f.out.src _ _ _ _ _ A.out)).mono ?_;clear v;rintro e w7 ⟨ad,Z⟩
     cases t:spF s.bs s.lim (s.bs.length+1-q2) q2 with
     |error E =>
      obtain⟨D,H⟩:=E;simp only[t] at d Z;subst d;clear t w;obtain rfl:=(show qao D H e from Z)
      go_wp2;exact⟨rfl,rfl,f.out.frb _ _ (f.out.fr _ _ _ _ _ A.out) ad⟩
     |ok up =>
      obtain⟨u3,j⟩:=up;simp only[t] at d Z;have a6:=qcm _ _ _ _ _ _ t;clear t;obtain⟨rfl,an⟩:=(show e=.returned (.tuple #[])/\qad w7 b {s with pos:=j,within:=s.within+1} from Z)
      have J:=qaa (f.out.step _ _ _ _ _ _ _ _ A.out an ad (by omega));clear A an ad Z;have v:=qab (f.out.box _ _ _ _ _ J.out) 0
      go_wp2_with fail
      have k:=(f.out.src _ _ _ _ _ J.out)
      cases n:s.bs[j]? with
      |none =>
       simp only[n] at d;subst d;refine(qbm w7 b {s with pos:=j,within:=s.within+1} k (by show j=s.bs.length;have y:j<=s.bs.length:=k.le;have O:=List.getElem?_eq_none_iff.1 n;omega)).mono ?_;clear n w k;rintro e w8 ⟨rfl,Q⟩;go_wp2;exact⟨rfl,rfl,f.out.frb _ _ (f.out.fr _ _ _ _ _ J.out) (But.of_below Q)⟩
      |some c =>
       rw[n] at d;simp only[] at d;have O:=ltL n;by_cases y:(j:Int)=s.lim
       ·rw[if_pos y] at d;subst d;refine(qaP w7 b {s with pos:=j,within:=s.within+1} k ⟨O,y⟩).mono ?_;clear n y O w k;rintro e w8 ⟨rfl,Q⟩;go_wp2;exact⟨rfl,rfl,f.out.frb _ _ (f.out.fr _ _ _ _ _ J.out) (But.of_below Q)⟩
       rw[if_neg y] at d;refine(qau w7 b {s with pos:=j,within:=s.within+1} c k ⟨n,y⟩).mono ?_;clear n y v k;rintro e w8 ⟨rfl,af,Q⟩;have B:=qaa (f.out.step _ _ _ _ _ _ _ _ J.out (show qad w8 b {s with pos:=j+1,within:=s.within+1} from af) Q (by omega));have au:Hid (j+1<=s.bs.length):=af.le;clear J af Q;have v:=qab (f.out.box _ _ _ _ _ B.out) 0;by_cases P:c.toNat=125
       ·rw[if_pos P] at d;subst d;have e1:((c.toNat:Int)==125)=true:=by rw[P];rfl
        clear P
        go_wp2_with fail
        refine(w w8 (j+1) (f.out.src _ _ _ _ _ B.out)).mono ?_;clear w v;rintro e w9 ⟨rfl,ao,ak⟩;have H9:=qaa (f.out.step _ _ _ _ _ _ _ _ B.out ao ak (by omega));clear B ao ak;go_wp2
        first|(refine qfO ?_;go_end0)|go_end0
        exact⟨rfl,H9.out⟩
       rw[if_neg P] at d;have e1:=nec (c:=c) 125 (by omega);by_cases T:c.toNat=44
       ·rw[if_pos T] at d;have HN:=qaa d;have e2:((c.toNat:Int)==44)=true:=by rw[T];rfl
        have ap:Hid (s.bs.length+1<=(j+1)+g):=by show _<=_;have:=hg.out;omega
        clear P T d w;go_wp2;go_roundg g
        case measure=>omega
        case rel=>exact⟨j+1,a',ap,au,B,HN⟩
       rw[if_neg T] at d;subst d;have e2:=nec (c:=c) 44 (by omega);have cR:=qat w8 b {s with pos:=j+1,within:=s.within+1} 9 (f.out.src _ _ _ _ _ B.out);rw[show((({s with pos:=j+1,within:=s.within+1}:Src).pos:Int)-1)=j by show(((j+1:Nat)):Int)-1=j;omega] at cR;clear P T w
       go_wp2_with fail
       refine cR.mono ?_;rintro e w9 ⟨rfl,rfl⟩;go_wp2;exact⟨rfl,rfl,f.out.fr _ _ _ _ _ B.out⟩

end
section
open Go.RowKit Go.Lib
theorem q3c (W:World)(bs:List UInt8)(cs:List Value)(n:Nat)(b:n=bs.length)(c:n<=9)(a:bs.map qav=cs):Own (W.alloc (.cells cs.toArray 5)) W.heap.size (.slice (some ⟨W.heap.size,0,none⟩) n n) bs/\Below W.heap.size W (W.alloc (.cells cs.toArray 5)):=by
 subst a;subst b;refine⟨⟨⟨by simp,.inr ⟨W.heap.size,bs.length,(bs.map qav).toArray,rfl,Nat.le_refl _,qac _ _,Nat.le_refl _,by unfold maxLen;omega,by simp,by simp[List.take_of_length_le]⟩⟩,by simp,_,_,_,rfl⟩,bwA⟩
theorem qy5 (W:World)(r:Int)(cs:List Value)(n:Nat)(d:n=cs.length)(a:runeCells r=cs):Own (W.alloc (.cells cs.toArray 5)) W.heap.size (.slice (some ⟨W.heap.size,0,none⟩) n n) (qcD r)/\Below W.heap.size W (W.alloc (.cells cs.toArray 5)):=by
 have b:=(encodeRuneZ_length r).2;have c:cs.length=(encodeRuneZ r).length:=by rw[<-a];unfold runeCells;rw[List.length_map]
 exact q3c W (qcD r) cs n (by unfold qcD;rw[List.length_map];omega) (by omega) (by rw[<-qhx,a])
theorem q1i (W:World)(n:Int)(h:0<=n)(i:n<=1114111)(j:¬(55296<=n/\n<=57343)):Calls prog 156 #[.int .i64 n] W fun e g=>∃v,e=.returned v/\Own g W.heap.size v (qcD n)/\Below W.heap.size W g:=by
 by_cases a:n<128
 ·have f:runeCells n=[.int .u8 n]:=by unfold runeCells;rw[encodeRuneZ_one h (by omega)];rfl
  have d:=qaa (qy5 W n _ 1 rfl f);go_enter func156,ntmps156;go_wp2;go_ret;exact⟨_,rfl,d.out.1,d.out.2⟩
 by_cases b:n<2048
 ·have f:runeCells n=[.int .u8 (192+n / 64),.int .u8 (128+n%64)]:=by unfold runeCells;rw[encodeRuneZ_two (by omega) (by omega)];rfl
  have d:=qaa (qy5 W n _ 2 rfl f);go_enter func156,ntmps156;go_wp2;go_ret;exact⟨_,rfl,d.out.1,d.out.2⟩
 by_cases c:n<65536
 ·have f:runeCells n=[.int .u8 (224+n / 4096),.int .u8 (128+n / 64%64),.int .u8 (128+n%64)]:=by unfold runeCells;rw[encodeRuneZ_three (by omega)];rfl
  have d:=qaa (qy5 W n _ 3 rfl f);go_enter func156,ntmps156;go_wp2;go_ret;exact⟨_,rfl,d.out.1,d.out.2⟩
 have f:runeCells n=[.int .u8 (240+n / 262144),.int .u8 (128+n / 4096%64),.int .u8 (128+n / 64%64),.int .u8 (128+n%64)]:=by unfold runeCells;rw[encodeRuneZ_four (by omega) (by omega)];rfl
 have d:=qaa (qy5 W n _ 4 rfl f);go_enter func156,ntmps156;go_wp2;go_ret;exact⟨_,rfl,d.out.1,d.out.2⟩

end
end Go.Proofs.YtcokgepdckkjdaaGreatDoor
