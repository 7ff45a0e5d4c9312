import Derived.Test.YtpifimohecagoaaGreatDoorPq26
set_option maxRecDepth 100000
set_option maxHeartbeats 8000000
namespace Go.Proofs.YtpifimohecagoaaGreatDoor
open Go.Proofs.Tryz
variable{j n p so x:Nat}{lim z:Int}{H bs l rest:List UInt8}{rd:Nat->Except (Int×Int) (DataW Unit×Nat)}{f:DataW Unit->List UInt8}{a b c c0:UInt8}
section
open Go.RowKit Go.Shelf
theorem qr1(i o d b:Int):(qeZ i o d b=false/\qeN i=false)\/(qeZ i o d b=false/\qeN i=true/\qeN o=false)\/(qeZ i o d b=false/\qeN i=true/\qeN o=true/\d<1)\/(qeZ i o d b=false/\qeN i=true/\qeN o=true/\1<=d/\16<d) \/
  (qeZ i o d b=false/\qeN i=true/\qeN o=true/\1<=d/\d<=16/\b<1)\/(qeZ i o d b=false/\qeN i=true/\qeN o=true/\1<=d/\d<=16/\1<=b/\4096<b)\/(qeZ i o d b=true/\qeN i=true/\qeN o=true/\1<=d/\d<=16/\1<=b/\b<=4096):=by
 unfold qeZ;cases qeN i<;>cases qeN o<;>simp;by_cases a:d<1
 ·simp[a];omega
 by_cases c:16<d
 ·simp[c];omega
 by_cases e:b<1
 ·simp[e];omega
 by_cases f:4096<b
 ·simp[f];omega
 omega
theorem qfE:qz4 8 qb3 qew:=by
 intro c w x hg;have y:Hid (qin w c):=x;have U:Hid (c.B.length<=maxLen):=by have:=x.bb;show _<=_;unfold maxLen;omega
 have D:Hid (c.arr.size=11):=c.size;have b:Hid (qh8 w c (w.alloc (.cells c.arr 25))):=qgs w c;have s:=qtQ c _ (b.out.cfg x);clear x hg;cases o:qbD c.labels c.L
 focus
  have d:qfO c=false:=by unfold qfO;rw[o];rfl
  have f:Hid (qb3 c=1):=by show _=_;unfold qb3;simp[d]
  have i:Hid (qew c=0):=by show _=_;unfold qew;rw[f.out];rfl
  rw[o]at s;clear o d
 rotate_left
 rw[o]at s;obtain⟨A,H⟩:=qek o;have C:Hid (qj7 c.arr c.labels.toNat c.L c.ea c.ecap):=H;have Y:Hid (c.labels=(c.labels.toNat:Nat)):=A.symm;have X:Hid (c.arr[0]?=some (.int .i64 (c.labels.toNat:Nat))):=by show _=_;rw[A];rfl
 have G:=λa W=>qcQ c.arr c.labels.toNat X.out a W;have d:qfO c=(qbM c.labels.toNat c.dflt&&qbM c.labels.toNat c.clr):=by unfold qfO;rw[o];rfl
 clear o A H;cases j:qbM c.labels.toNat c.dflt
 focus
  have f:Hid (qb3 c=1):=by show _=_;unfold qb3;simp[d,j]
  have i:Hid (qew c=0):=by show _=_;unfold qew;rw[f.out];rfl
  clear d
 rotate_left
 cases k:qbM c.labels.toNat c.clr
 focus
  have f:Hid (qb3 c=1):=by show _=_;unfold qb3;simp[d,j,k]
  have i:Hid (qew c=0):=by show _=_;unfold qew;rw[f.out];rfl
  clear d
 rotate_left
 cases l:qby c.labels.toNat (qbf c.labels.toNat c.L)
 focus
  have f:Hid (qb3 c=2):=by show _=_;unfold qb3;simp[d,j,k,l]
  have i:Hid (qew c=0):=by show _=_;unfold qew;rw[f.out];rfl
  clear d
 rotate_left
 cases m:qb2 c.labels.toNat (qbf c.labels.toNat c.L)
 focus
  have f:Hid (qb3 c=3):=by show _=_;unfold qb3;simp[d,j,k,l,m]
  have i:Hid (qew c=0):=by show _=_;unfold qew;rw[f.out];rfl
  clear d
 rotate_left
 rcases qr1 c.inn c.out c.depth c.bytes with⟨g,p⟩|⟨g,p,q⟩|⟨g,p,q,t⟩|⟨g,p,q,t,z⟩|⟨g,p,q,t,z,F⟩|⟨g,p,q,t,z,F,b2⟩|⟨g,p,q,t,z,F,b2⟩
 focus
  have f:Hid (qb3 c=4):=by show _=_;unfold qb3;simp[d,j,k,l,m,g]
  have i:Hid (qew c=0):=by show _=_;unfold qew;rw[f.out];rfl
  clear d g
 rotate_left
 focus
  have f:Hid (qb3 c=4):=by show _=_;unfold qb3;simp[d,j,k,l,m,g]
  have i:Hid (qew c=0):=by show _=_;unfold qew;rw[f.out];rfl
  clear d g
 rotate_left
 focus
  have f:Hid (qb3 c=4):=by show _=_;unfold qb3;simp[d,j,k,l,m,g]
  have i:Hid (qew c=0):=by show _=_;unfold qew;rw[f.out];rfl
  clear d g
 rotate_left
 focus
  have f:Hid (qb3 c=4):=by show _=_;unfold qb3;simp[d,j,k,l,m,g]
  have i:Hid (qew c=0):=by show _=_;unfold qew;rw[f.out];rfl
  clear d g
 rotate_left
 focus
  have f:Hid (qb3 c=4):=by show _=_;unfold qb3;simp[d,j,k,l,m,g]
  have i:Hid (qew c=0):=by show _=_;unfold qew;rw[f.out];rfl
  clear d g
 rotate_left
 focus
  have f:Hid (qb3 c=4):=by show _=_;unfold qb3;simp[d,j,k,l,m,g]
  have i:Hid (qew c=0):=by show _=_;unfold qew;rw[f.out];rfl
  clear d g
 rotate_left
 cases u:qaF c.B
 focus
  have f:Hid (qb3 c=5):=by show _=_;unfold qb3;simp[d,j,k,l,m,g,u]
  have i:Hid (qew c=0):=by show _=_;unfold qew;rw[f.out];rfl
  clear d
 rotate_left
 by_cases v:0<=qa5 c.labels.toNat c.pol.data.toList
 focus
  have f:Hid (qb3 c=6):=by show _=_;unfold qb3;simp[d,j,k,l,m,g,u,v]
  obtain⟨V,n⟩:∃V,qa5 c.labels.toNat c.pol.data.toList=V:=⟨_,rfl⟩
  have E:Hid (qa5 c.labels.toNat c.pol.data.toList=V):=n;have i:Hid (qew c=V):=by show _=_;unfold qew;rw[f.out,if_pos rfl];exact n
  rw[n]at v;clear d g n
 rotate_left
 have f:Hid (qb3 c=0):=by show _=_;unfold qb3;simp[d,j,k,l,m,g,u,v]
 obtain⟨V,n⟩:∃V,qa5 c.labels.toNat c.pol.data.toList=V:=⟨_,rfl⟩
 have E:Hid (qa5 c.labels.toNat c.pol.data.toList=V):=n;have i:Hid (qew c=0):=by show _=_;unfold qew;rw[f.out];rfl
 rw[n]at v;clear d g n
 all_goals
  go_enter func8,ntmps8;have Z:True:=trivial;have T2:True:=trivial;have T3:True:=trivial;have T4:True:=trivial
  go_wp2_with(first
   |(refine wpList_load_row rfl 25 _ rfl _ rfl _ _ _ _ b.out.box underlying25 rfl (qaA D.out) ?_)
   |(refine qaf 25 _ rfl ?hw _ rfl _ _ _ _ b.out.box underlying25 rfl (qaA D.out) ?_;case hw=>simp[go_sem];done)
   |(go_at_call 18;refine s.mono ?_;clear s;rintro e w2 ⟨rfl,O⟩;have h:=qab (b.out.step O);clear b;have b:=h;clear h O;have k2:w2.cell? ⟨w.heap.size,2,none⟩=some (.int .i64 c.dflt):=b.out.cell 2)
   |(go_at_call 19;clear Z;refine(G c.dflt _).mono ?_;clear k2;rintro e w3 ⟨rfl,P⟩;rw[j];have h:=qab (b.out.step P);clear b;have b:=h;clear h P;have k4:w3.cell? ⟨w.heap.size,4,none⟩=some (.int .i64 c.clr):=b.out.cell 4)
   |(go_at_call 19;clear T2;refine(G c.clr _).mono ?_;clear k4;rintro e w4 ⟨rfl,Q⟩;rw[k];have h:=qab (b.out.step Q);clear b;have b:=h;clear h Q;have J:=qlU c.arr c.labels.toNat c.L c.ea c.ecap C.out w4 (b.out.cfg y.out).edges)
   |(go_at_call 20;refine J.mono ?_;clear J;rintro e w5 ⟨rfl,R⟩;rw[l];have h:=qab (b.out.step R);clear b;have b:=h;clear h R;have K:=qmp c.arr c.labels.toNat c.L c.ea c.ecap C.out w5 (b.out.cfg y.out).edges)
   |(go_at_call 21;refine K.mono ?_;clear K;rintro e r ⟨rfl,S⟩;rw[m];have h:=qab (b.out.step S);clear b;have b:=h;clear h S;have k6:r.cell? ⟨w.heap.size,6,none⟩=some (.int .i64 c.inn):=b.out.cell 6;have k7:r.cell? ⟨w.heap.size,7,none⟩=some (.int .i64 c.out):=b.out.cell 7;have k8:r.cell? ⟨w.heap.size,8,none⟩=some (.int .i64 c.depth):=b.out.cell 8;have k9:r.cell? ⟨w.heap.size,9,none⟩=some (.int .i64 c.bytes):=b.out.cell 9;have aa:r.cell? ⟨w.heap.size,10,none⟩=some (.slice c.ba c.B.length c.bcap):=b.out.cell 10;have I:=qhH c.ba c.bcap c.B U.out r (b.out.cfg y.out).ints)
   |(go_at_call 22;clear T3;refine(qhN c.inn _).mono ?_;rintro e w7 ⟨rfl,rfl⟩;rw[p])
   |(go_at_call 22;clear T4;refine(qhN c.out _).mono ?_;rintro e w8 ⟨rfl,rfl⟩;rw[q])
   |(go_at_call 23;refine I.mono ?_;clear I k6 k7 k8 k9 aa;rintro e w9 ⟨rfl,T⟩;rw[u];have h:=qab (b.out.step T);clear b;have b:=h;clear h T;have M:=qqR c c.labels.toNat Y.out w9)
   |(go_at_call 24;refine M.mono ?_;clear M;rintro e ab ⟨ua,um,uc,rfl,N⟩;rw[E.out];have h:=qab (b.out.step N);clear b;have b:=h;clear h N))
  go_ret2
  exact⟨by rw[f.out,i.out];rfl,b.out.below⟩

end
section
open Go.RowKit Go.Lib
theorem qx4{so w:Int}{p q:Int}(h:nbF so w x p=.ok z):nbF so w x q=.ok z:=by
 unfold nbF at h ⊢;split at h
 ·next e=>rw[if_pos e];exact h
 next e =>
 rw[if_neg e];split at h
 ·cases h
 next e2=>rw[if_neg e2];exact h
theorem qu8{hd:Nat->Nat×Nat×Nat}{N:List UInt8}(h:qrh hd N lim=.ok (z,N.length)):NmR hd N z:=by
 obtain⟨c,x,a,l,d,j⟩:=qoK h
 cases N with
 |nil=>cases a
 |cons b t =>
  injection a with a;subst a;have k:=qgg _ _ _ _ _ _ _ d;have e:t.length=(hd b.toNat).2.1:=by rw[List.length_cons]at k;omega
  refine⟨b,t,_,_,_,x,rfl,rfl,l,e,λf m p n i g=>?_,λq=>qx4 j⟩;rw[<-e]at d ⊢;exact qkR f (b::t) m lim i n [] t p 1 _ x _ g (by simp) d
structure FmR(hd:Nat->Nat×Nat×Nat)(hB hL hM hT:Nat->List UInt8)(nt:Bool->List UInt8)(no:List UInt8)(nm:Int->List UInt8):Prop where
 b:∀n,n<4294967296->HdR hd (hB n) 7 n
 l:∀n,n<4294967296->HdR hd (hL n) 9 n
 m:∀n,n<4294967296->HdR hd (hM n) 10 n
 t:∀n,n<4294967296->HdR hd (hT n) 8 n
 tr:HdR hd (nt true) 3 0
 fa:HdR hd (nt false) 2 0
 no:HdR hd no 1 0
 nm:∀z,-9223372036854775808<=z->z<=9223372036854775807->NmR hd (nm z) z
theorem qzx:FmR qdO (qaj 2) (qaj 4) (qaj 5) (qaj 3) qqq (qaj 7 22) qfm :=
 ⟨λn h=>qgh 2 n (by decide) (by omega),λn h=>qgh 4 n (by decide) (by omega),λn h=>qgh 5 n (by decide) (by omega),λn h=>qgh 3 n (by decide) (by omega),qdF rfl,qdF rfl,qdF rfl,λz a b=>qu8 (qop z 9 (by decide) a b)⟩
theorem qzM:FmR qcb qbu qbp qbo qa1 qr2 [192] qeW :=
 ⟨qt1,qsO,qsD,qsI,qdF rfl,qdF rfl,qdF rfl,λz a b=>qu8 (qo9 z 9 (by decide) a b)⟩
theorem qu3(bs:List UInt8)(lim:Int)(e:(bs.length:Int)<=lim)(rest:List UInt8):∀(l a:List UInt8) (p:Nat),bs.drop p=l++rest->qgp bs lim l.length p a=.ok (a++l,p+l.length)
 |[],a,p,_=>by simp[qgp]
 |c::l,a,p,hp=>by
  obtain⟨b,d,f⟩:=qak hp;rw[List.length_cons,qgp,b];simp only[];rw[if_neg (by omega),qu3 bs lim e rest l (a++[c]) (p+1) d,List.append_assoc,show p+1+l.length=p+(l.length+1) by omega];rfl
theorem qtA(a:(bs.length:Int)<=lim)(b:bs.drop p=l++rest):qgp bs lim l.length p []=.ok (l,p+l.length):=qu3 bs lim a rest l [] p b
def Gd:Nat->DataW Unit->Prop
 |0,_=>False
 |k+1,d=>match d with
  |.nil=>True
  |.lit (.bool _)=>True
  |.lit (.int .i64 z)=>-9223372036854775808<=z/\z<=9223372036854775807
  |.lit (.string l)=>Vt l
  |.ptr (.lit (.string _))=>True
  |.agg ds=>1<=k/\∀x∈ds,Gd k x
  |.map es=>1<=k/\(es.map λe=>qaG e.1).Nodup/\∀e∈es,(∃l,e.1=.string l/\Vt l)/\Gd k e.2
  |_=>False
section
variable{hd:Nat->Nat×Nat×Nat} {hB hL hM hT:Nat->List UInt8} {nt:Bool->List UInt8} {no:List UInt8} {nm:Int->List UInt8}
theorem HdR.pos(h:HdR hd H so n):1<=H.length:=by
 obtain⟨c,t,_,_,rfl,_⟩:=h;simp
theorem qlr(h:HdR hd H so n)(f:¬so=0){depth:Int}(l:(bs.length:Int)<=lim){g wi:Nat}(o:so=9\/so=10->¬(wi:Int)=depth)(m:bs.drop p=H++rest):∃w,thB hd bs lim depth (g+1) wi p=qgr bs lim (λx q=>qbn (thB hd bs lim depth g (wi+1)) x q []) (λx q=>qa7 (qes hd bs lim) (thB hd bs lim depth g (wi+1)) x q [] []) so w n (p+H.length):=by
 obtain⟨c,t,w,a,rfl,i,j,k⟩:=h;obtain⟨b,d,r⟩:=qak m;refine⟨w,?_⟩;rw[qeF b (by omega) i,if_neg f,if_neg (λe=>o e.1 e.2),k bs lim (p+1) rest l d];simp only[];rw[List.length_cons,j,show p+1+w=p+(w+1) by omega]
theorem qmI(rest:List UInt8):∀(ds acc:List (DataW Unit)) (p:Nat),(∀x∈ds,∀p r,bs.drop p=f x++r->rd p=.ok (x,p+(f x).length))->bs.drop p=ds.flatMap f++rest->qbn rd ds.length p acc=.ok (acc++ds,p+(ds.flatMap f).length)
 |[],acc,p,_,_=>by simp[qbn]
 |d::ds,acc,p,h,hp=>by
  rw[List.flatMap_cons,List.append_assoc]at hp;rw[List.length_cons,qbn,h d (List.mem_cons_self ..) p _ hp];simp only[];rw[qmI rest ds (acc++[d]) _ (λx a=>h x (List.mem_cons_of_mem _ a)) (by rw[<-List.drop_drop,hp,List.drop_left]),List.flatMap_cons,List.length_append,List.append_assoc,Nat.add_assoc];rfl
theorem qyO(F:FmR hd hB hL hM hT nt no nm)(d:(bs.length:Int)<=lim)(s:bs.length<=999999999){ks:List (List UInt8)}(q:Vt l)(n:¬l∈ks)(b:bs.drop p=hT l.length++l++rest):qes hd bs lim ks p=.ok (l,p+(hT l.length++l).length):=by
 have u:l.length<=bs.length:=by
  have:=congrArg List.length b;simp only[List.length_drop,List.length_append]at this;omega
 have h:=F.t l.length (by omega);rw[List.append_assoc]at b;have o:bs.drop (p+(hT l.length).length)=l++rest:=by rw[<-List.drop_drop,b,List.drop_left]
 obtain⟨c,t,w,a,e,j,k,m⟩:=h;rw[e]at b;obtain⟨f,g,r⟩:=qak b;unfold qes;rw[f];simp only[];rw[if_neg (by omega),j];simp only[];rw[if_pos True.intro,m bs lim (p+1) _ d g];simp only[];have i:p+1+w=p+(hT l.length).length:=by rw[e,List.length_cons,k];omega
 rw[i,qnm d q o];simp only[];rw[if_neg n,List.length_append,Nat.add_assoc]
theorem qhW(F:FmR hd hB hL hM hT nt no nm)(i:(bs.length:Int)<=lim)(g:bs.length<=999999999)(rest:List UInt8):∀(es acc:List (Lit×DataW Unit)) (ks:List (List UInt8)) (p:Nat),(es.map λe=>qaG e.1).Nodup->(∀e∈es,¬qaG e.1∈ks)->(∀e∈es,∃l,e.1=.string l/\Vt l)->(∀e∈es,∀p r,bs.drop p=f e.2++r->rd p=.ok (e.2,p+(f e.2).length))->bs.drop p=(es.flatMap λe=>(hT (qaG e.1).length++qaG e.1)++f e.2)++rest->qa7 (qes hd bs lim) rd es.length p ks acc=.ok (acc++es,p+(es.flatMap λe=>(hT (qaG e.1).length++qaG e.1)++f e.2).length)
 |[],acc,ks,p,_,_,_,_,_=>by simp[qa7]
 |e::es,acc,ks,p,hn,hk,hv,h,hp=>by
  obtain⟨l,c,k⟩:=hv e (List.mem_cons_self ..);have d:qaG e.1=l:=by rw[c];rfl
  rw[List.flatMap_cons,List.append_assoc,List.append_assoc]at hp;rw[List.map_cons,List.nodup_cons]at hn;have o:=hk e (List.mem_cons_self ..);have j:bs.drop (p+(hT (qaG e.1).length++qaG e.1).length)=f e.2++((es.flatMap λe=>(hT (qaG e.1).length++qaG e.1)++f e.2)++rest):=by rw[<-List.drop_drop,hp,List.drop_left]
  have n:=qyO F i g (ks:=ks) (l:=qaG e.1) (d▸k) o hp;rw[List.length_cons,qa7,n];simp only[];rw[h e (List.mem_cons_self ..) _ _ j];simp only[];have m:(Lit.string (qaG e.1),e.2)=e:=by rw[d,<-c]
  rw[m,qhW F i g rest es (acc++[e]) (qaG e.1::ks) _ hn.2 (λx a b=>?_) (λx a=>hv x (List.mem_cons_of_mem _ a)) (λx a=>h x (List.mem_cons_of_mem _ a)) (by rw[<-List.drop_drop,j,List.drop_left])]
  ·simp only[List.flatMap_cons,List.length_append,List.append_assoc,Nat.add_assoc,List.cons_append,List.nil_append]
  rcases List.mem_cons.1 b with b|b
  ·exact hn.1 (b▸List.mem_map_of_mem a)
  exact hk x (List.mem_cons_of_mem _ a) b
theorem quA(F:FmR hd hB hL hM hT nt no nm):∀{k:Nat} {d:DataW Unit},Gd k d->(∀n,1<=(hB n).length/\1<=(hL n).length/\1<=(hM n).length/\1<=(hT n).length)->1<=(wrF hB hL hM hT nt no nm k d).length
 |0,_,h,_=>h.elim
 |k+1,d,h,hp=>by
  unfold Gd at h;unfold wrF;split at h
  ·exact F.no.pos
  ·next b=>cases b;exact F.fa.pos;exact F.tr.pos
  ·next z =>
   obtain⟨c,t,_,_,_,_,e,_⟩:=F.nm z h.1 h.2;simp only[e];simp
  ·next l=>have:=(hp l.length).2.2.2;simp only[List.length_append];omega
  ·next l=>have:=(hp l.length).1;simp only[List.length_append];omega
  ·next ds=>have:=(hp ds.length).2.1;simp only[List.length_append];omega
  ·next es=>have:=(hp es.length).2.2.1;simp only[List.length_append];omega
  exact h.elim
theorem qrS(F:FmR hd hB hL hM hT nt no nm)(q:∀n,1<=(hB n).length/\1<=(hL n).length/\1<=(hM n).length/\1<=(hT n).length)(bs:List UInt8)(lim depth:Int)(f:(bs.length:Int)<=lim)(u:bs.length<=999999999):∀(k g wi:Nat) (d:DataW Unit) (p:Nat) (rest:List UInt8),Gd k d->k<=g->(k:Int)+wi<=depth+1->bs.drop p=wrF hB hL hM hT nt no nm k d++rest->thB hd bs lim depth g wi p=.ok (d,p+(wrF hB hL hM hT nt no nm k d).length)
 |0,_,_,_,_,_,h,_,_,_=>h.elim
 |k+1,0,_,_,_,_,_,hg,_,_=>by omega
 |k+1,g+1,wi,d,p,rest,h,hg,hw,hp=>by
  have v:=qrS F q bs lim depth f u k g (wi+1);have j:=congrArg List.length hp;rw[List.length_drop,List.length_append]at j;unfold Gd at h;unfold wrF at hp j ⊢;split at h
  ·obtain⟨w,e⟩:=qlr F.no (by decide) f (g:=g) (wi:=wi) (depth:=depth) (λe=>by omega) hp;exact e
  ·next b =>
   cases b
   ·obtain⟨w,e⟩:=qlr F.fa (by decide) f (g:=g) (wi:=wi) (depth:=depth) (λe=>by omega) hp;exact e
   obtain⟨w,e⟩:=qlr F.tr (by decide) f (g:=g) (wi:=wi) (depth:=depth) (λe=>by omega) hp;exact e
  ·next z =>
   obtain⟨c,t,L,w,a,x,e,C,J,D,E,o⟩:=F.nm z h.1 h.2;simp only[e]at hp ⊢;obtain⟨y,A,K⟩:=qak hp;rw[qeF y (by omega) C,if_neg (by omega),if_neg (by omega),E bs lim (p+1) rest f A];simp only[];have B:p+1+w=p+(c::t).length:=by rw[List.length_cons,D];omega
   rcases J with rfl|rfl|rfl
   all_goals
    unfold qgr;simp only[]
    first
    |rw[show nbF 4 (w:Int) x _=Except.ok z from o _]
    |rw[show nbF 5 (w:Int) x _=Except.ok z from o _]
    |rw[show nbF 6 (w:Int) x _=Except.ok z from o _]
    simp only[];rw[B]
  ·next l =>
   simp only[List.append_assoc]at hp;simp only[List.length_append]at j;obtain⟨w,e⟩:=qlr (F.t l.length (by omega)) (by decide) f (g:=g) (wi:=wi) (depth:=depth) (λe=>by omega) hp;rw[e];unfold qgr;simp only[];rw[qnm f h (rest:=rest) (by rw[<-List.drop_drop,hp,List.drop_left])];simp only[List.length_append,Nat.add_assoc]
  ·next l =>
   simp only[List.append_assoc]at hp;simp only[List.length_append]at j;obtain⟨w,e⟩:=qlr (F.b l.length (by omega)) (by decide) f (g:=g) (wi:=wi) (depth:=depth) (λe=>by omega) hp;rw[e];unfold qgr;simp only[];rw[qtA f (rest:=rest) (by rw[<-List.drop_drop,hp,List.drop_left])];simp only[List.length_append,Nat.add_assoc]
  ·next ds =>
   simp only[List.append_assoc]at hp;simp only[List.length_append]at j;have G:=qcY (wrF hB hL hM hT nt no nm k) ds (λx i=>quA F (h.2 x i) q);obtain⟨w,e⟩:=qlr (F.l ds.length (by omega)) (by decide) f (g:=g) (wi:=wi) (depth:=depth) (λ_=>by have:=h.1;omega) hp;rw[e];unfold qgr;simp only[];rw[qmI rest ds [] _ (λx i p r s=>v x p r (h.2 x i) (by omega) (by omega) s) (by rw[<-List.drop_drop,hp,List.drop_left])];simp only[List.length_append,Nat.add_assoc,List.nil_append]
  ·next es =>
   simp only[List.append_assoc]at hp;simp only[List.length_append]at j;have G:=qcY (λe:Lit×DataW Unit=>(hT (qaG e.1).length++qaG e.1)++wrF hB hL hM hT nt no nm k e.2) es (λx i=>by have:=quA F (h.2.2 x i).2 q;simp only[List.length_append];omega);obtain⟨w,e⟩:=qlr (F.m es.length (by omega)) (by decide) f (g:=g) (wi:=wi) (depth:=depth) (λ_=>by have:=h.1;omega) hp;rw[e];unfold qgr;simp only[];have I:bs.drop (p+(hM es.length).length)=(es.flatMap λe=>(hT (qaG e.1).length++qaG e.1)++wrF hB hL hM hT nt no nm k e.2)++rest:=by rw[<-List.drop_drop,hp,List.drop_left];simp only[List.append_assoc]
   rw[qhW F f u rest es [] [] _ h.2.1 (λ_ _ H=>by cases H) (λx i=>(h.2.2 x i).1) (λx i p r s=>v x.2 p r (h.2.2 x i).2 (by omega) (by omega) s) I];simp only[List.length_append,Nat.add_assoc,List.nil_append,List.append_assoc]
  exact h.elim
end

theorem qk1(c:UInt8):(c.toNat<128/\qcO c=1)\/(194<=c.toNat/\c.toNat<224/\qcO c=2/\qeX c=128/\qgZ c=191)\/(224<=c.toNat/\c.toNat<240/\qcO c=3/\qeX c=(if c.toNat=224 then 160 else 128)/\qgZ c=(if c.toNat=237 then 159 else 191))\/(240<=c.toNat/\c.toNat<245/\qcO c=4/\qeX c=(if c.toNat=240 then 144 else 128)/\qgZ c=(if c.toNat=244 then 143 else 191))\/((128<=c.toNat/\c.toNat<194\/245<=c.toNat)/\qcO c=0):=by
 unfold qcO qeX qgZ
 repeat' split
 all_goals omega
theorem ch1(h:b.toNat<128):Ch [b]:=⟨b,[],rfl,by have:=qk1 b;simp;omega,λj c a=>by cases a⟩
theorem q0f(h:qeX c0<=b.toNat/\b.toNat<=qgZ c0):qbH c0 1 b=false:=by
 cases e:qbH c0 1 b with
 |false=>rfl
 |true=>have:=(qjf c0 b).1 e;omega
theorem qz6(a:1<j)(h:128<=b.toNat/\b.toNat<=191):qbH c0 j b=false:=by
 cases e:qbH c0 j b with
 |false=>rfl
 |true=>have:=(qdK c0 b j a).1 e;omega
theorem ch2(e:194<=a.toNat/\a.toNat<224)(f:128<=b.toNat/\b.toNat<=191):Ch [a,b]:=by
 have h:=qk1 a;refine⟨a,[b],rfl,by simp;omega,λj c d=>?_⟩
 match j with
 |0=>cases d;exact q0f (by omega)
theorem ch3(l:224<=a.toNat/\a.toNat<240)(m:128<=b.toNat/\b.toNat<=191)(g:a.toNat=224->160<=b.toNat)(i:a.toNat=237->b.toNat<=159)(k:128<=c.toNat/\c.toNat<=191):Ch [a,b,c]:=by
 have h:=qk1 a;refine⟨a,[b,c],rfl,by simp;omega,λj x f=>?_⟩
 match j with
 |0 =>
  cases f;refine q0f ?_;by_cases d:a.toNat=224
  ·simp[d]at h;have:=g d;omega
  by_cases e:a.toNat=237
  ·simp[e]at h;have:=i e;omega
  simp[d,e]at h;omega
 |1=>cases f;exact qz6 (by decide) k
theorem ch4{d:UInt8}(n:240<=a.toNat/\a.toNat<245)(o:128<=b.toNat/\b.toNat<=191)(i:a.toNat=240->144<=b.toNat)(k:a.toNat=244->b.toNat<=143)(l:128<=c.toNat/\c.toNat<=191)(m:128<=d.toNat/\d.toNat<=191):Ch [a,b,c,d]:=by
 have h:=qk1 a;refine⟨a,[b,c,d],rfl,by simp;omega,λj x g=>?_⟩
 match j with
 |0 =>
  cases g;refine q0f ?_;by_cases e:a.toNat=240
  ·simp[e]at h;have:=i e;omega
  by_cases f:a.toNat=244
  ·simp[f]at h;have:=k f;omega
  simp[e,f]at h;omega
 |1=>cases g;exact qz6 (by decide) l
 |2=>cases g;exact qz6 (by decide) m
theorem qdh(h:x<256):(UInt8.ofNat x).toNat=x:=by rw[UInt8.toNat_ofNat',Nat.mod_eq_of_lt h]
theorem qqN(r:Int):Ch (qbN r):=by
 unfold qbN encodeRuneZ;split
 ·exact ch1 (by rw[qdh (by omega)];omega)
 split
 ·exact ch2 (by rw[qdh (by omega)];omega) (by rw[qdh (by omega)];omega)
 split
 ·exact ch3 (by rw[qdh (by omega)];omega) (by rw[qdh (by omega)];omega) (by rw[qdh (by omega),qdh (by omega)];omega) (by rw[qdh (by omega),qdh (by omega)];omega) (by rw[qdh (by omega)];omega)
 split
 ·exact ch4 (by rw[qdh (by omega)];omega) (by rw[qdh (by omega)];omega) (by rw[qdh (by omega),qdh (by omega)];omega) (by rw[qdh (by omega),qdh (by omega)];omega) (by rw[qdh (by omega)];omega) (by rw[qdh (by omega)];omega)
 exact ch3 (by decide) (by decide) (by decide) (by decide) (by decide)
theorem qh3(h:x=b.toNat):UInt8.ofNat x=b:=UInt8.toNat_inj.1 (by rw[qdh (by have:=b.toNat_lt;omega),h])
theorem qzD(h:ChT c0 (b::l)):qeX c0<=b.toNat/\b.toNat<=qgZ c0:=by
 have a:=h 0 b rfl;have:=(not_congr (qjf c0 b)).1 (by rw[a];decide);omega
theorem qzu(h:ChT c0 l)(c:l[j+1]?=some b):128<=b.toNat/\b.toNat<=191:=by
 have a:=h (j+1) b c;have:=(not_congr (qdK c0 b (j+1+1) (by omega))).1 (by rw[a];decide);omega
theorem quh{ch:List UInt8}(h:Ch ch):∃r:Nat,(∀g,decodeL (ch++g)=(r,ch.length))/\qbN r=ch/\(r<128->∃b,ch=[b]/\b.toNat=r)/\(128<=r->∃a l,ch=a::l/\128<=a.toNat):=by
 obtain⟨a,l,rfl,q,i⟩:=h;have v:=a.toNat_lt;rcases qk1 a with⟨k,o⟩|⟨k,o,p,m,n⟩|⟨k,o,p,m,n⟩|⟨k,o,p,m,n⟩|⟨_,k⟩
 ·obtain rfl:l=[]:=List.eq_nil_of_length_eq_zero (by omega);refine⟨a.toNat,λg=>decodeL_ascii a g k,?_,λ_=>⟨a,rfl,rfl⟩,λe=>by omega⟩;unfold qbN;rw[encodeRuneZ_one (by omega) (by omega)];exact congrArg (·::[]) (qh3 (by omega))
 ·obtain⟨b,rfl⟩:∃b,l=[b]:=List.length_eq_one_iff.1 (by omega);have f:=qzD i;rw[m,n]at f;refine⟨a.toNat%32*64+b.toNat%64,λg=>?_,?_,λe=>by omega,λ_=>⟨a,[b],rfl,by omega⟩⟩
  ·rw[decodeL_N];show decodeN (g.length+1+1) a.toNat b.toNat _ _=_;unfold decodeN;rw[if_neg (by omega),if_pos (by omega),if_pos (by omega)];rfl
  unfold qbN;rw[encodeRuneZ_two (by omega) (by omega)];simp only[List.map_cons,List.map_nil];rw[qh3 (b:=a) (by omega),qh3 (b:=b) (by omega)]
 ·obtain⟨b,c,rfl⟩:∃b c,l=[b,c]:=by
   match l,q with
   |[b,c],_=>exact⟨b,c,rfl⟩
   |[],h=>simp at h;omega
   |[_],h=>simp at h;omega
   |_::_::_::_,h=>simp at h;omega
  have f:=qzD i;have s:=qzu (j:=0) i rfl;rw[m,n]at f;have t:128<=b.toNat/\b.toNat<=191/\(a.toNat=224->160<=b.toNat)/\(a.toNat=237->b.toNat<=159):=by
   split at f<;>split at f<;>omega
  refine⟨a.toNat%16*4096+b.toNat%64*64+c.toNat%64,λg=>?_,?_,λe=>by omega,λ_=>⟨a,_,rfl,by omega⟩⟩
  ·rw[decodeL_N];show decodeN (g.length+1+1+1) a.toNat b.toNat c.toNat _=_;unfold decodeN;rw[if_neg (by omega),if_neg (by omega),if_pos (by omega),if_pos (by omega)];rfl
  unfold qbN;rw[encodeRuneZ_three (by omega)];simp only[List.map_cons,List.map_nil];rw[qh3 (b:=a) (by omega),qh3 (b:=b) (by omega),qh3 (b:=c) (by omega)]
 ·obtain⟨b,c,d,rfl⟩:∃b c d,l=[b,c,d]:=by
   match l,q with
   |[b,c,d],_=>exact⟨b,c,d,rfl⟩
   |[],h=>simp at h;omega
   |[_],h=>simp at h;omega
   |[_,_],h=>simp at h;omega
   |_::_::_::_::_,h=>simp at h;omega
  have f:=qzD i;have s:=qzu (j:=0) i rfl;have u:=qzu (j:=1) i rfl;rw[m,n]at f;have t:128<=b.toNat/\b.toNat<=191/\(a.toNat=240->144<=b.toNat)/\(a.toNat=244->b.toNat<=143):=by
   split at f<;>split at f<;>omega
  refine⟨a.toNat%8*262144+b.toNat%64*4096+c.toNat%64*64+d.toNat%64,λg=>?_,?_,λe=>by omega,λ_=>⟨a,_,rfl,by omega⟩⟩
  ·rw[decodeL_N];show decodeN (g.length+1+1+1+1) a.toNat b.toNat c.toNat d.toNat=_;unfold decodeN;rw[if_neg (by omega),if_neg (by omega),if_neg (by omega),if_pos (by omega),if_pos (by omega)];rfl
  unfold qbN;rw[encodeRuneZ_four (by omega) (by omega)];simp only[List.map_cons,List.map_nil];rw[qh3 (b:=a) (by omega),qh3 (b:=b) (by omega),qh3 (b:=c) (by omega),qh3 (b:=d) (by omega)]
 omega

theorem qjV(bs:List UInt8)(lim:Int):∀(g p:Nat) (b a l:List UInt8) (q:Nat),Vt b->Pd a->qcT bs lim g p (b++a) b.length=.ok (l,q)->Vt l
 |0,p,b,a,l,q,_,_,h=>by
  rw[qcT]at h;cases h
 |g+1,p,b,a,l,q,h1,h2,h=>by
  have j:∀(x:List UInt8) (p:Nat),Ch x->qcT bs lim g p (b++(a++x)) (b++(a++x)).length=.ok (l,q)->Ch (a++x)->Vt l:=λx p _ f k=>by
   have:=qjV bs lim g p (b++(a++x)) [] l q (qm5 h1 k) (.inl rfl);rw[List.append_nil]at this;exact this f
  rw[qcT]at h;split at h
  ·cases h
  next c hc =>
  split at h
  ·cases h
  split at h
  ·next e =>
   have:a=[]:=List.eq_nil_of_length_eq_zero (by have:=e.2;rw[List.length_append]at this;omega);subst this;rw[List.append_nil]at h;cases h;exact h1
  split at h
  ·next e =>
   have:a=[]:=List.eq_nil_of_length_eq_zero (by have:=e.2;rw[List.length_append]at this;omega);subst this;split at h
   ·cases h
   next r q2 _ =>
   rw[List.append_assoc]at h;exact j _ _ (qqN r) h (qqN r)
  split at h
  ·cases h
  rw[List.drop_left]at h;split at h
  ·cases h
  next ha =>
  rw[List.append_assoc]at h;rcases qrj h2 ha with⟨e,d⟩|⟨e,i⟩
  ·rw[if_pos e]at h;have:=qjV bs lim g (p+1) (b++(a++[c])) [] l q (qm5 h1 d) (.inl rfl);rw[List.append_nil]at this;refine this ?_;rw[<-h];congr 1;simp;omega
  rw[if_neg e]at h;exact qjV bs lim g (p+1) b (a++[c]) l q h1 i h
theorem qmA(bs:List UInt8)(lim:Int)(s:(bs.length:Int)<=lim)(b:UInt8)(d:List UInt8)(k:Nat)(rest:List UInt8):∀(m a:List UInt8) (p:Nat),m≠[]->a.length+m.length+1=qcO b->ChT b (a++m)->bs.drop p=m++rest->qcT bs lim (m.length+k) p (d++b::a) d.length=qcT bs lim k (p+m.length) (d++b::(a++m)) (d++b::(a++m)).length
 |[],_,_,h,_,_,_=>absurd rfl h
 |c::m,a,p,_,hk,ht,hd=>by
  obtain⟨o,q,t⟩:=qak hd;have g:qbH b (a.length+1) c=false:=ht a.length c (by rw[List.getElem?_append_right (Nat.le_refl _),Nat.sub_self];rfl);have l:a.length+1<qcO b:=by simp at hk;omega
  have r:¬c.toNat<32:=λe=>by have:=quQ b c (a.length+1) (by omega) (by omega) e;rw[g]at this;cases this
  rw[show(c::m).length+k=m.length+k+1 by simp;omega,qcT,o];simp only[];rw[if_neg (by omega),if_neg (by simp),if_neg (by simp),if_neg r,List.drop_left];have n:d++b::a++[c]=d++b::(a++[c]):=by simp
  have j:a++[c]++m=a++c::m:=by simp
  rw[n];by_cases i:m=[]
  ·subst i;have f:qbC (b::a) c=2:=by rw[qke b a c l,g,if_neg (by simp),if_pos (by simp at hk;omega)]
   rw[f,if_neg (by decide),if_pos rfl];have:(d++b::a).length+1=(d++b::(a++[c])).length:=by simp;omega
   rw[this];simp
  have u:=List.length_pos_iff.2 i;have f:qbC (b::a) c=1:=by rw[qke b a c l,g,if_neg (by simp),if_neg (by simp at hk;omega)]
  have:=qmA bs lim s b d k rest m (a++[c]) (p+1) i (by simp at hk ⊢;omega) (by rw[j];exact ht) q;rw[j]at this;rw[f,if_neg (by decide),if_neg (by decide),this,show p+1+m.length=p+(c::m).length by simp;omega]
theorem qwA(bs:List UInt8)(lim:Int)(i:(bs.length:Int)<=lim)(f:Ch (c0::l))(n:32<=c0.toNat/\¬c0.toNat=34/\¬c0.toNat=92)(a:List UInt8)(k p:Nat)(rest:List UInt8)(g:bs.drop p=c0::l++rest):qcT bs lim ((c0::l).length+k) p a a.length=qcT bs lim k (p+(c0::l).length) (a++c0::l) (a++c0::l).length:=by
 obtain⟨m,q,e,h,j⟩:=f;injection e with e1 e2;subst e1 e2;obtain⟨b,d,o⟩:=qak g;rw[show(c0::l).length+k=l.length+k+1 by simp;omega,qcT,b];simp only[];rw[if_neg (by omega),if_neg (by omega),if_neg (by omega),if_neg (by omega),List.drop_length];by_cases b:qcO c0=1
 ·have:l=[]:=List.eq_nil_of_length_eq_zero (by omega);subst this;have c:qbC [] c0=2:=by rw[qdr,if_neg (by omega),if_pos b]
  rw[c,if_neg (by decide),if_pos rfl];simp
 have c:qbC [] c0=1:=by rw[qdr,if_neg (by omega),if_neg b]
 rw[c,if_neg (by decide),if_neg (by decide)];have:=qmA bs lim i c0 a k rest l [] (p+1) (by intro e;subst e;simp at h;omega) (by simp;omega) j d;rw[this,show p+1+l.length=p+(c0::l).length by simp;omega];rfl
def qln(ch:List UInt8):List UInt8:=qjF (decodeL ch).1
theorem quH:∀(chs:List (List UInt8)) (g:Nat),(∀ch∈chs,Ch ch)->chs.flatten.length<=g->qd0 g chs.flatten=chs.flatMap qln
 |[],g,_,_=>qle g
 |ch::chs,g,h,hg=>by
  have c:=h ch (List.mem_cons_self ..);obtain⟨r,a,_⟩:=quh c;obtain⟨j,l,e,_⟩:=c;have f:ch++chs.flatten≠[]:=by rw[e];simp
  have k:1<=ch.length:=by rw[e];simp
  rw[List.flatten_cons,List.length_append]at hg;obtain⟨g,rfl⟩:∃d,g=d+1:=⟨g-1,by omega⟩
  rw[List.flatten_cons,qij g _ f,a,List.drop_left,List.flatMap_cons,quH chs g (λx i=>h x (List.mem_cons_of_mem _ i)) (by omega)];have b:=a [];rw[List.append_nil]at b;unfold qln;rw[b]
theorem qxZ:∀x:Fin 16,qpc (qeu x.val)=some x.val:=by decide
theorem qj4(g:(bs.length:Int)<=lim){k a:Nat}(d:x<16){r:List UInt8}(c:bs.drop p=qeu x::r):qfK bs lim (k+1) p a=qfK bs lim k (p+1) (a*16+x):=by
 obtain⟨b,e,f⟩:=qak c;rw[qfK,b];simp only[];rw[if_neg (by omega),qxZ ⟨x,d⟩]
theorem qvF(a:(bs.length:Int)<=lim){r:Nat}(j:r<32)(g:bs.drop p=[117,48,48,qeu (r/16),qeu (r%16)]++rest):qlo bs lim p=.ok ((r:Int),p+5):=by
 obtain⟨e,b,i⟩:=qak g;obtain⟨_,c,_⟩:=qak b;obtain⟨_,d,_⟩:=qak c;obtain⟨_,f,_⟩:=qak d;have h:qfK bs lim 4 (p+1) 0=.ok (r,p+5):=by
  rw[qj4 (x:=0) a (by decide) b,qj4 (x:=0) a (by decide) c,qj4 (x:=r/16) a (by omega) d,qj4 (x:=r%16) a (by omega) f,qfK];congr 2;omega
 unfold qlo;rw[e];simp only[];rw[if_neg (by omega)];show qfs bs lim (p+1)=_;unfold qfs;rw[h];simp only[];rw[if_neg (by unfold qvn;simp;omega),if_neg (by unfold qza;simp;omega)]
theorem quL(bs:List UInt8)(lim:Int)(s:(bs.length:Int)<=lim)(rest:List UInt8):∀(chs:List (List UInt8)) (g p:Nat) (acc:List UInt8),(∀ch∈chs,Ch ch)->bs.drop p=chs.flatMap qln++34::rest->(chs.flatMap qln).length+1<=g->qcT bs lim g p acc acc.length=.ok (acc++chs.flatten,p+(chs.flatMap qln).length+1)
 |[],g,p,acc,_,hd,hg=>by
  obtain⟨q,e,G⟩:=qak (show bs.drop p=34::rest from hd);obtain⟨g,rfl⟩:∃a,g=a+1:=⟨g-1,by omega⟩
  rw[qcT,q];simp only[];rw[if_neg (by omega),if_pos (by simp)];simp
 |ch::chs,g,p,acc,h,hd,hg=>by
  have y:=h ch (List.mem_cons_self ..);obtain⟨r,B,u,C,D⟩:=quh y;have v:=B [];rw[List.append_nil]at v;have z:=λg p=>quL bs lim s rest chs g p (acc++ch) (λx J=>h x (List.mem_cons_of_mem _ J));rw[List.flatMap_cons,List.append_assoc]at hd;rw[List.flatMap_cons,List.length_append]at hg ⊢;rw[List.flatten_cons,<-List.append_assoc];have k:bs.drop (p+(qln ch).length)=chs.flatMap qln++34::rest:=by rw[<-List.drop_drop,hd,List.drop_left]
  have n:qln ch=qjF r:=by unfold qln;rw[v]
  have w:∀(t:List UInt8) (a:Nat),qln ch=92::t->g=a+1->qlo bs lim (p+1)=.ok ((r:Int),p+1+t.length)->qcT bs lim g p acc acc.length=.ok (acc++ch++chs.flatten,p+((qln ch).length+(chs.flatMap qln).length)+1):=λt a d i I=>by
   rw[d]at hd k hg ⊢;obtain⟨q,e,G⟩:=qak hd;subst i;rw[qcT,q];simp only[];rw[if_neg (by omega),if_neg (by decide),if_pos (by simp),I];simp only[];rw[u,show p+1+t.length=p+(92::t).length by simp;omega,z a _ k (by rw[List.length_cons]at hg;omega)];rw[Nat.add_assoc p]
  obtain⟨a,i⟩:∃a,g=a+1:=⟨g-1,by omega⟩
  by_cases f:r=34\/r=92
  ·have d:qln ch=[92,UInt8.ofNat r]:=by rw[n];unfold qjF;rw[if_pos f]
   refine w _ a d i ?_;rw[d]at hd;obtain⟨_,e,_⟩:=qak hd;obtain⟨H,_,K⟩:=qak e;unfold qlo;rw[H];simp only[];rw[if_neg (by omega)];rcases f with rfl|rfl<;>rfl
  by_cases m:r<32
  ·have d:qln ch=[92,117,48,48,qeu (r/16),qeu (r%16)]:=by rw[n];unfold qjF;rw[if_neg f,if_pos m]
   refine w _ a d i ?_;rw[d]at hd;obtain⟨_,e,_⟩:=qak hd;exact qvF s m e
  have d:qln ch=ch:=by rw[n];unfold qjF;rw[if_neg f,if_neg m,u]
  rw[d]at hd k hg ⊢;obtain⟨c,l,rfl,F⟩:∃c l,ch=c::l/\(32<=c.toNat/\¬c.toNat=34/\¬c.toNat=92):=by
   by_cases A:r<128
   ·obtain⟨b,o,E⟩:=C A;exact⟨b,[],o,by omega⟩
   obtain⟨c,l,o,E⟩:=D (by omega);exact⟨c,l,o,by omega⟩
  obtain⟨j,rfl⟩:∃j,g=(c::l).length+j:=⟨g-(c::l).length,by omega⟩
  rw[qwA bs lim s y F acc j p _ hd,z j _ k (by omega),Nat.add_assoc p]
theorem quD(i:(bs.length:Int)<=lim)(h:Vt l)(b:bs.drop p=jsT l++rest):bs[p]?=some 34/\p<bs.length/\qcT bs lim (bs.length+1-(p+1)) (p+1) [] 0=.ok (l,p+(jsT l).length):=by
 obtain⟨a,c,rfl⟩:=h;have e:jsT a.flatten=34::(a.flatMap qln++[34]):=by
  unfold jsT;rw[quH a _ c (Nat.le_refl _)];rfl
 rw[e]at b ⊢;obtain⟨d,f,g⟩:=qak b;have j:=congrArg List.length b;simp only[List.length_drop,List.length_append,List.length_cons,List.length_nil]at j;refine⟨d,g,?_⟩;have:=quL bs lim i rest a (bs.length+1-(p+1)) (p+1) [] c (by rw[f];simp) (by omega);rw[show([]:List UInt8).length=0 from rfl]at this;rw[this,List.nil_append];congr 2;simp;omega

end
end Go.Proofs.YtpifimohecagoaaGreatDoor
