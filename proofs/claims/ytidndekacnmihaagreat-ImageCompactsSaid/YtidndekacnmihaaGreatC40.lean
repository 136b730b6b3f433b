/- Parts of a proof. -/
import Derived.Test.YtidndekacnmihaaGreatC29
set_option linter.all false
set_option maxHeartbeats 8000000
set_option maxRecDepth 100000
namespace Go.Proofs.YtidndekacnmihaaGreat
open Bool renaming true→f
open IntKind renaming u64→r
open Option renaming some→g
variable {lev v:Int} {at_ base ix most u:Nat} {T:List UInt8}
open Go.RowKit
section
open Dk
theorem zqn {d:St} {n:Nat} (h:Alv d n) (first:Nat) (l:List UInt8) (hf:first+(l.length+63) / 64≤n):(wrS d first l).2=0∧Alv (wrS d first l).1 n:=zli first l n _ 0 d h (by omega)
theorem znh {m:Nat} {es:List En} (hv:v=1∨v=2) (hg:∀ e∈es,zfK v e) (hf:u+(rcA v (pS v) es).size≤m*64):rgS v m u es=rcA v (pS v) es∧rgE v m u es=0:=by
 obtain ⟨h1,h2⟩:=zpL hv hg;have hd:((rcA v (pS v) es).size:Int)≤((m*64:Nat):Int)-u:=by omega
 unfold rgS rgE;rw [h1,h2,ztN hd,if_pos rfl,if_pos hd];exact ⟨if_pos rfl,rfl⟩
theorem zpD {d:St} {n:Nat} (h:Alv d n) (ok:d.Ok) (hu:u % 64≠0→at_+u / 64<n):(ahL d at_ u).length=u % 64∧ahZ d at_ u=0:=by
 unfold ahL ahZ
 by_cases h0:u % 64=0
 ·rw [if_pos h0,if_pos h0];exact ⟨h0.symm,rfl⟩
 ·rw [if_neg h0,if_neg h0,h.refuses (hu h0),if_pos rfl,zt5,ok.now];exact ⟨by omega,rfl⟩
end
section
open Dk
theorem zna {d:St} {n:Nat} (h:Alv d n) (first:Nat) (l:List UInt8) (hf:first+(l.length+63) / 64≤n) (j:Nat):(wrS d first l).1.now j=if first≤j∧j<first+(l.length+63) / 64 then sx l (j-first) else d.now j:=by
 have:=ziu first l n ((l.length+63) / 64) 0 d h (by omega) j
 rw [Nat.add_zero] at this;exact this
theorem zqm {i:Nat} (h:T.length≤i*64):sx T i=zsec:=by
 unfold sx pad zsec;rw [zut h];rfl
def zg5 (d:St) (at_ m:Nat) (T:List UInt8):Prop:=∀ i,i<m→d.now (at_+i)=sx T i
theorem zsO (T s:List UInt8) (i:Nat) (hi:i<T.length / 64):sx (T++s) i=sx T i:=by
 unfold sx
 congr 1
 rw [List.drop_append_of_le_length (by omega),zuW (by rw [zuh];omega)]
theorem zrG (T s:List UInt8) (q i:Nat) (hq:q*64≤T.length):sx ((T.drop (q*64))++s) i=sx (T++s) (q+i):=by
 unfold sx
 congr 2
 rw [show (q+i)*64=q*64+i*64 by omega,←List.drop_drop,List.drop_append_of_le_length hq]
theorem zpB {d:St} {n m:Nat} (h:Alv d n) (hn:at_+m≤n) (hT:T.length≤m*64) (hH:zg5 d at_ m T):ahL d at_ T.length=T.drop (T.length / 64*64):=by
 unfold ahL
 by_cases h0:T.length % 64=0
 ·rw [if_pos h0,zut (by omega)]
 ·rw [if_neg h0,h.refuses (by omega),if_pos rfl,hH _ (by omega)];unfold sx pad;have hl:(T.drop (T.length / 64*64)).length=T.length % 64:=by rw [zuh];omega
  rw [zt9 (l:=T.drop (T.length / 64*64)) (by omega),zuW (by omega),zt9 (by omega)]
theorem znb {d:St} {n m:Nat} {es:List En} (h:Alv d n) (ok:d.Ok) (hv:v=1∨v=2) (hg:∀ e∈es,zfK v e) (hf:T.length+(rcA v (pS v) es).size≤m*64) (hn:at_+m≤n) (hH:zg5 d at_ m T) :
 ∃ d',zbI d at_ m v T.length es=(d',((T.length+(rcA v (pS v) es).size:Nat):Int),0)∧Alv d' n∧zg5 d' at_ m (T++(rcA v (pS v) es).data.toList)∧∀ j,j<at_∨at_+m≤j→d'.now j=d.now j:=by
 obtain ⟨r1,r2⟩:=znh (m:=m) (u:=T.length) hv hg hf;have hlz:(rcA v (pS v) es).data.toList.length=(rcA v (pS v) es).size:=by rw [zug];rfl
 by_cases hz:rcA v (pS v) es=⟨#[]⟩
 ·refine ⟨d,?_,h,?_,fun _ _=>rfl⟩
  ·unfold zbI;rw [r1,r2,if_neg (by simp),if_pos hz,hz];rfl
  ·rw [hz];show zg5 d at_ m (T++[]);rw [zuG];exact hH
 obtain ⟨a1,a2⟩:=zpD (at_:=at_) (u:=T.length) h ok (fun _=>by omega);have ae:=zpB h hn (by omega) hH;obtain ⟨s,hs⟩:∃ s,s=rcA v (pS v) es:=⟨_,rfl⟩;rw [←hs] at r1 hz hf hlz ⊢;have hlen:(ahL d at_ T.length++s.data.toList).length=T.length % 64+s.size:=by rw [zt4,a1,hlz]
 have e1:T.length-T.length % 64=T.length / 64*64:=by omega
 have e2:T.length / 64*64 / 64=T.length / 64:=by omega
 have hcap:at_+T.length / 64+(T.length % 64+s.size+63) / 64≤at_+m:=by omega
 obtain ⟨w1,w2⟩:=zqn h (at_+T.length / 64) (ahL d at_ T.length++s.data.toList) (by rw [hlen];omega);have wn:=zna h (at_+T.length / 64) (ahL d at_ T.length++s.data.toList) (by rw [hlen];omega);refine ⟨(wrS d (at_+T.length / 64) (ahL d at_ T.length++s.data.toList)).1,?_,w2,?_,?_⟩
 ·unfold zbI;rw [r1,r2,a1,a2,e1,e2,if_neg (by simp),if_neg hz,if_neg (by simp),if_neg (by rw [w1];simp)]
 ·intro i hi;rw [wn,hlen]
  by_cases h1:at_+T.length / 64≤at_+i∧at_+i<at_+T.length / 64+(T.length % 64+s.size+63) / 64
  ·rw [if_pos h1,ae,show at_+i-(at_+T.length / 64)=i-T.length / 64 by omega,zrG _ _ _ _ (by omega),show T.length / 64+(i-T.length / 64)=i by omega]
  ·rw [if_neg h1,hH i hi]
   by_cases h2:i<T.length / 64
   ·rw [zsO _ _ _ h2]
   ·rw [zqm (T:=T) (by omega),zqm (by rw [zt4,hlz];omega)]
 ·intro j hj;rw [wn,hlen,if_neg (by omega)]
theorem znc {d:St} {m:Nat} (hT:T.length≤m*64) (h:zg5 d at_ m T):rdB d at_ m=txt T++zz (m*64-T.length):=by
 unfold rdB;rw [zlj _ T m h,zt9 (by rw [zt4,zuu];omega),zm9,zz_list]
theorem zfB {d:St} {n:Nat} (h:Alv d n):d.flush.2=0∧Alv d.flush.1 n∧∀ j,d.flush.1.now j=d.now j:=by
 have hl:d.step.left=-1:=by show (if 0<d.left then d.left-1 else d.left)=-1;rw [h.l];rfl
 have e:d.flush=(d.step.settle,0):=by
  unfold St.flush St.try_;rw [if_neg (by rw [h.l];decide),if_neg (by rw [h.x];decide)]
 rw [e];exact ⟨rfl,⟨h.n,hl,h.x⟩,fun j=>rfl⟩
theorem znd {S:En→ByteArray} (a b:List En) (hv:v≠1∨(rcA v S a).size % 64=0):rcA v S (a++b)=rcA v S a++rcA v S b:=by
 have key:∀ (b:List En) (s t:ByteArray),(v≠1∨s.size % 64=0)→b.foldl (fun s e=>padv v (s++S e)) (s++t)=s++b.foldl (fun s e=>padv v (s++S e)) t:=by
  intro b;induction b with
  | nil=>intro s t _;rfl
  | cons e b ih =>
    intro s t h;rw [List.foldl_cons,List.foldl_cons,←ih s _ h]
    congr 1
    unfold padv
    have h1:bgn v (s++t++S e).size-(s++t++S e).size=bgn v (t++S e).size-(t++S e).size:=by
     simp only [ztS];unfold bgn;rcases h with h|h
     ·rw [if_neg h,if_neg h];omega
     ·split<;>omega
    rw [h1];apply ByteArray.ext;simp [zup,Array.append_assoc]
 unfold rcA;rw [List.foldl_append]
 have:=key b (rcA v S a) ⟨#[]⟩ hv
 have e0:rcA v S a++(⟨#[]⟩:ByteArray)=rcA v S a:=by apply ByteArray.ext;simp [zup]
 rw [e0] at this;exact this
theorem zg6 (a:List En):(rcA 1 (pS 1) a).size % 64=0:=by
 rcases List.eq_nil_or_concat a with rfl|⟨l,e,rfl⟩
 ·rfl
 ·rw [List.concat_eq_append,zeY,zd3];unfold bgn;rw [if_pos rfl];omega
theorem zsP (n:Nat):nOk (zz n)=false:=by
 cases n with
 | zero=>exact znq rfl
 | succ n =>
   have hf:Vi.za1 (zz (n+1)) 1=0:=by
    unfold Vi.za1
    split
    ·have hn:Vi.nums (zz (n+1))=0 :: Vi.nums (zz n):=by
      unfold Vi.nums;rw [zz_list,zz_list];rfl
     rw [hn];rfl
    ·rfl
   unfold nOk nV;rw [hf];rfl
end
theorem zjX {E:En} {ix:Int} (h:zas E=f) (hi:1≤ix):zas { E with index:=ix }=f:=by
 unfold zas asks at h ⊢;simp only [List.all_cons,List.all_nil,id,Bool.and_true,ztZ] at h ⊢;obtain ⟨h1,h2,h3,h4⟩:=h;exact ⟨h1,h2,ztN hi,h4⟩
theorem zi5 {E:En} (hk:E.kind=11) (h:zas E=f):zas ⟨E.term,E.index,1,E.client,E.seq,E.block,0,0,0,E.data,⟨#[]⟩⟩=f:=by
 have l1:∀ n lo hi,lim (fl 1) 99 n lo hi=lim (fl 11) 99 n lo hi:=fun n lo hi=>by unfold lim;rw [show zbo (fl 1) 99=zbo (fl 11) 99 from by decide +kernel]
 have l2:∀ n lo hi,lim (fl 1) 98 n lo hi=lim (fl 11) 98 n lo hi:=fun n lo hi=>by unfold lim;rw [show zbo (fl 1) 98=zbo (fl 11) 98 from by decide +kernel]
 have l3:∀ n lo hi,lim (fl 1) 100 n lo hi=lim (fl 11) 100 n lo hi:=fun n lo hi=>by unfold lim;rw [show zbo (fl 1) 100=zbo (fl 11) 100 from by decide +kernel]
 have z1:lim (fl 1) 109 0 0 4294967295=f:=by decide +kernel
 have z2:lim (fl 1) 110 (r.wrap 0) 1 7=f:=by decide +kernel
 have z3:lim (fl 1) 108 (r.wrap 0) 1 2=f:=by decide +kernel
 have z4:lim (fl 1) 111 (r.wrap (((⟨#[]⟩:ByteArray).size:Nat):Int)) 0 64=f:=by decide +kernel
 have f1:fb 1=f:=by decide
 unfold zas asks at h ⊢;rw [hk] at h;simp only [List.all_cons,List.all_nil,id,Bool.and_true,ztZ] at h ⊢;obtain ⟨h1,h2,h3,h4,h5,h6,h7,h8,h9,h10,h11⟩:=h;exact ⟨f1,h2,h3,by rw [l1];exact h4,by rw [l1];exact h5,by rw [l2];exact h6,z1,z2,z3,by rw [l3];exact h10,z4⟩
theorem zpG {p:En} (ok:p.Ok) (hlev:lev=1∨lev=2) (h1:1≤ix) (h2:ix≤9223372036854775807):(lgE lev ix (mk p)).Ok∧zas (lgE lev ix (mk p))=f∧(lev=1→zdl (lgE lev ix (mk p))=f):=by
 obtain ⟨mo,mr,md,mq,_,_⟩:=zji p ok;obtain ⟨E,hE⟩:∃ E,E=mk p:=⟨_,rfl⟩;rw [←hE] at mo mr md mq ⊢;have hix:(1:Int)≤(ix:Int):=by omega
 by_cases hl:lev<lvl E.kind
 ·have hk:E.kind=11:=by unfold lvl at hl;split at hl<;>omega
  have e1:lgE lev ix E=⟨E.term,(ix:Int),1,E.client,E.seq,E.block,0,0,0,E.data,⟨#[]⟩⟩:=by unfold lgE lg1;rw [if_pos hl]
  have hr:zas (lgE lev ix E)=f:=by rw [e1];exact zjX (zi5 hk mr) hix
  refine ⟨?_,hr,fun _=>?_⟩
  ·rw [e1];exact ⟨mo.t0,mo.t1,by show (0:Int)≤(ix:Int);omega,by show (ix:Int)≤_;omega,by show (-9223372036854775808:Int)≤1;decide,by show (1:Int)≤_;decide,mo.c0,mo.c1,mo.s0,mo.s1,mo.b0,mo.b1,Int.le_refl 0,by show (0:Int)≤_;decide,by show (-9223372036854775808:Int)≤0;decide,by show (0:Int)≤9223372036854775807;decide,by show (-9223372036854775808:Int)≤0;decide,by show (0:Int)≤9223372036854775807;decide,mo.d1,ztO _⟩
  ·unfold zdl;rw [hr,e1];rfl
 ·have e1:lgE lev ix E={ E with index:=(ix:Int) }:=by unfold lgE lg1;rw [if_neg hl]
  have hr:zas (lgE lev ix E)=f:=by rw [e1];exact zjX mr hix
  refine ⟨?_,hr,fun h=>?_⟩
  ·rw [e1];exact ⟨mo.t0,mo.t1,by show (0:Int)≤(ix:Int);omega,by show (ix:Int)≤_;omega,mo.k0,mo.k1,mo.c0,mo.c1,mo.s0,mo.s1,mo.b0,mo.b1,mo.m0,mo.m1,mo.n0,mo.n1,mo.l0,mo.l1,mo.d1,mo.o1⟩
  ·unfold zdl;rw [hr,e1]
   have:lvl E.kind=1:=by
    unfold lvl at hl ⊢
    by_cases h9:E.kind=11
    ·rw [if_pos h9] at hl;omega
    ·rw [if_neg h9]
   show (f&&(lvl E.kind==1))=f;rw [this];rfl
theorem znm {L:List (En×Bool)} (hok:∀ p∈L,p.1.Ok) (hlev:lev=1∨lev=2) (hb:base≤4611686018427387904) (hm:most≤64) {e:En} (he:e∈lgd lev base most L):e.Ok∧zas e=f∧(lev=1→zdl e=f):=by
 obtain ⟨i,hi⟩:=List.getElem?_of_mem he;obtain ⟨h1,h2⟩:=zg9 _ _ _ _ _ _ hi;have h3:i<L.length:=by omega
 rw [zt2 h3,Option.getD_some] at h2;rw [h2];exact zpG (hok _ (List.getElem_mem h3)) hlev (by omega) (by omega)
theorem zpH {L:List (En×Bool)} (hok:∀ p∈L,p.1.Ok) (hv:v=1∨v=2) (hl:lev=1∨lev=2) (h:v=1→lev=1) (hb:base≤4611686018427387904) (hm:most≤64):∀ e∈lgd lev base most L,zfK v e:=fun e he=>by
 obtain ⟨h1,h2,h3⟩:=znm hok hl hb hm he;exact znl hv h1 h2 fun e=>h3 (h e)
theorem zkU (lev:Int) (base most:Nat) (L:List (En×Bool)):(lgd lev base most L).length=min L.length most:=zkS _ _ _ _
theorem znn (lev:Int) (base most:Nat) (L:List (En×Bool)) (i:Nat) (e:En) (h:(lgd lev base most L)[i]?=g e):e.index=((base+i+1:Nat):Int):=by
 obtain ⟨h1,h2⟩:=zg9 _ _ _ _ _ _ h;rw [h2];rfl
theorem zno (b:Nat):∀ (es out:List En),(∀ i e,es[i]?=g e→e.index=((b+out.length+i+1:Nat):Int))→jn b out es=g (out++es)
 | [],out,_=>by rw [zuG];rfl
 | e :: t,out,h=>by
   have h0:=h 0 e rfl
   have hi:=zno b t (out++[e]) fun i x hx=>by
    have:=h (i+1) x hx
    rw [this,zt4]
    simp
    omega
   rw [jn,if_neg (by omega),show (e.index-1-(b:Int)).toNat=out.length by omega,List.take_length,hi,zuc];rfl
theorem ztp (b k:Nat) (a m:List En) (hk:k≤a.length) (h:∀ i e,m[i]?=g e→e.index=((b+k+i+1:Nat):Int)):jn b a m=g (if m=[] then a else a.take k++m):=by
 cases m with
 | nil=>rw [if_pos rfl];rfl
 | cons e t =>
   have h0:=h 0 e rfl;rw [if_neg (by simp),jn,if_neg (by omega),show (e.index-1-(b:Int)).toNat=k by omega];have hl:(a.take k++[e]).length=k+1:=by simp;omega
   rw [zno b t (a.take k++[e]) fun i x hx=>by
    have:=h (i+1) x hx
    rw [this,hl]
    omega]
   simp
theorem zsS (b:Nat) (a m:List En) (h:∀ i e,m[i]?=g e→e.index=((b+a.length+1+i+1:Nat):Int)):jn b a m=if m=[] then g a else none:=by
 cases m with
 | nil=>rw [if_pos rfl];rfl
 | cons e t =>
   have h0:=h 0 e rfl;rw [if_neg (by simp),jn,if_pos (by omega)]
section
open Dk Vi
theorem zj3 (n:Nat) (h:n<128):(zaE n).size≤1:=by
 unfold zaE;rw [zb2];exact zaJ n 0 (by omega)
theorem zqo (n:Nat) (h:n<16384):(zaE n).size≤2:=by
 unfold zaE;rw [zb2];exact zaJ n 1 (by omega)
theorem zrK (v:Int) (h0:0≤v) (h:v<128):(nb v).size≤1:=by
 unfold nb
 split
 ·exact ztO _
 ·exact zj3 _ (by omega)
theorem zts (v:Int) (h0:0≤v) (h:v<16384):(nb v).size≤2:=by
 unfold nb
 split
 ·exact ztO _
 ·exact zqo _ (by omega)
theorem ztt (d:ByteArray) (h:d.size≤64):(tb d).size≤65:=by
 unfold tb
 split
 ·exact ztO _
 ·rw [ztS]
  have:=zj3 d.size (by omega)
  omega
theorem zfG (X:En) (t k:Nat) (ht:t≤11) (h:(fP t X).size≤k):(fdB eF X t).size≤k+1:=by
 unfold fdB
 split
 ·exact ztO _
 ·rw [ztS];have h1:=zj3 t (by omega);have h2:(eF.P t X).size≤k:=h;omega
structure zns (e:En):Prop where
 t:0≤e.term∧e.term<16384
 i:0≤e.index∧e.index<16384
 k:0≤e.kind∧e.kind<128
 c:0≤e.client∧e.client<128
 s:0≤e.seq∧e.seq<128
 b:0≤e.block∧e.block<128
 m:0≤e.many∧e.many<128
 n:0≤e.node∧e.node<128
 l:0≤e.level∧e.level<128
 d:e.data.size≤64
 o:e.old.size≤64
theorem znt {e:En} (h:zns e):(sbE e).size≤87+(if e.old.size=0 then 0 else 66):=by
 have h1:=zfG e 1 1 (by omega) (zrK _ h.k.1 h.k.2);have h2:=zfG e 2 2 (by omega) (zts _ h.t.1 h.t.2);have h3:=zfG e 3 2 (by omega) (zts _ h.i.1 h.i.2);have h4:=zfG e 4 1 (by omega) (zrK _ h.c.1 h.c.2);have h5:=zfG e 5 1 (by omega) (zrK _ h.s.1 h.s.2);have h6:=zfG e 6 1 (by omega) (zrK _ h.b.1 h.b.2);have h7:=zfG e 7 1 (by omega) (zrK _ h.m.1 h.m.2);have h8:=zfG e 8 1 (by omega) (zrK _ h.n.1 h.n.2);have h9:=zfG e 9 1 (by omega) (zrK _ h.l.1 h.l.2);have h10:=zfG e 10 65 (by omega) (ztt _ h.d)
 have h11:(fdB eF e 11).size≤(if e.old.size=0 then 0 else 66):=by
  split
  ·rename_i h0
   have:(eF.P 11 e).size=0:=by show (tb e.old).size=0;unfold tb;rw [if_pos h0];rfl
   unfold fdB;rw [if_pos this];exact ztO _
  ·exact zfG e 11 65 (by omega) (ztt _ h.o)
 have h0:=zj3 0 (by omega);show (zdA eF e 11++zaE 0).size≤_;rw [ztS]
 have st:∀ k,(zdA eF e (k+1)).size=(zdA eF e k).size+(fdB eF e (k+1)).size:=fun k=>by
  show (zdA eF e k++fdB eF e (k+1)).size=_;rw [ztS]
 have z:(zdA eF e 0).size=0:=rfl;have s1:=st 0;have s2:=st 1;have s3:=st 2;have s4:=st 3;have s5:=st 4;have s6:=st 5;have s7:=st 6;have s8:=st 7;have s9:=st 8;have s10:=st 9;have s11:=st 10;simp only [Nat.reduceAdd] at s1 s2 s3 s4 s5 s6 s7 s8 s9 s10 s11;omega
theorem zgp {b:ByteArray} (h:b.size<16384):(pack 2 b).size≤7+b.size:=by
 unfold pack;rw [ztS,ztS,zbh]
 have:(hdF 2 b.size).size≤3:=by
  unfold hdF zho;have a1:(fxB (160+2:Int).toNat 1).size=1:=zac _ 1 (by omega);have a2:=zqo b.size h;rw [if_neg (by decide),ztS,a1];omega
 omega
theorem zpJ (p:En) (ok:p.Ok):zns (mk p):=by
 obtain ⟨_,_,md,mo,_,_⟩:=zji p ok;have r0:=zt7 p.kind (show (12:Int)≠0 by omega);have r1:=zua p.kind (show (0:Int)<12 by omega);have w1:∀ (n m:Int),0<m→0≤r.wrap n % m∧r.wrap n % m<m:=fun n m h=>⟨zt7 _ (by omega),zua _ h⟩;have wn:=w1 p.node 7 (by omega);have wl:=w1 p.level 2 (by omega);have g1:=zt7 p.term (show (1000:Int)≠0 by omega);have g2:=zua p.term (show (0:Int)<1000 by omega);have g3:=zt7 p.index (show (1000:Int)≠0 by omega);have g4:=zua p.index (show (0:Int)<1000 by omega);have c1:=zt7 p.client (show (5:Int)≠0 by omega);have c2:=zua p.client (show (0:Int)<5 by omega);have s1:=zt7 p.seq (show (9:Int)≠0 by omega);have s2:=zua p.seq (show (0:Int)<9 by omega);have b1:=zt7 p.block (show (9:Int)≠0 by omega);have b2:=zua p.block (show (0:Int)<9 by omega);have m1:=zt7 p.many (show (9:Int)≠0 by omega);have m2:=zua p.many (show (0:Int)<9 by omega)
 have ib:∀ {q:Prop} [Decidable q] {a:Int},0≤a∧a≤9→0≤(if q then a else 0)∧(if q then a else 0)<128:=fun h=>by
  split<;>omega
 exact ⟨by unfold mk part;dsimp only;omega,by unfold mk part;dsimp only;omega,by unfold mk part;dsimp only;omega,ib (by omega),ib (by omega),ib (by omega),ib (by omega),ib (by omega),ib (by omega),md,mo⟩
theorem znu {p:En} (ok:p.Ok) (hlev:lev=1∨lev=2) (h2:ix<16384):zns (lgE lev ix (mk p)):=by
 have h:=zpJ p ok
 by_cases hl:lev<lvl (mk p).kind
 ·have e1:lgE lev ix (mk p)=⟨(mk p).term,(ix:Int),1,(mk p).client,(mk p).seq,(mk p).block,0,0,0,(mk p).data,⟨#[]⟩⟩:=by unfold lgE lg1;rw [if_pos hl]
  rw [e1];exact ⟨h.t,⟨by show (0:Int)≤(ix:Int);omega,by show (ix:Int)<_;omega⟩,⟨by show (0:Int)≤1;decide,by show (1:Int)<128;decide⟩,h.c,h.s,h.b,⟨Int.le_refl 0,by show (0:Int)<128;decide⟩,⟨Int.le_refl 0,by show (0:Int)<128;decide⟩,⟨Int.le_refl 0,by show (0:Int)<128;decide⟩,h.d,ztO _⟩
 ·have e1:lgE lev ix (mk p)={ (mk p) with index:=(ix:Int) }:=by unfold lgE lg1;rw [if_neg hl]
  rw [e1];exact ⟨h.t,⟨by show (0:Int)≤(ix:Int);omega,by show (ix:Int)<_;omega⟩,h.k,h.c,h.s,h.b,h.m,h.n,h.l,h.d,h.o⟩
theorem znv {L:List (En×Bool)} (hok:∀ p∈L,p.1.Ok) (hlev:lev=1∨lev=2) (hb:base≤16000) (hm:most≤64):∀ e∈lgd lev base most L,zns e:=fun e he=>by
 obtain ⟨i,hi⟩:=List.getElem?_of_mem he;obtain ⟨h1,h2⟩:=zg9 _ _ _ _ _ _ hi;have h3:i<L.length:=by omega
 rw [zt2 h3,Option.getD_some] at h2;rw [h2];exact znu (hok _ (List.getElem_mem h3)) hlev (by omega)
theorem zsV {e:En} (h:zfK 2 e) (hs:zns e) (ho:e.old.size=0):(pS 2 e).size≤94:=by
 have hr:zas e=f:=by
  have:=h.o
  unfold pO at this;rw [ztZ] at this;exact this.1
 have e1:D.ePv 2 e=sbE e:=by show zbx e=_;unfold zbx;rw [if_pos hr]
 have h1:=znt hs;rw [if_pos ho] at h1;have h2:=zgp (b:=sbE e) (by omega);rw [h.s,e1];omega
theorem znw (es:List En) (h:∀ e∈es,(pS 2 e).size≤128):(rcA 2 (pS 2) es).size≤128*es.length:=by
 have key:∀ (es:List En) (s:ByteArray),(∀ e∈es,(pS 2 e).size≤128)→(es.foldl (fun s e=>padv 2 (s++pS 2 e)) s).size≤s.size+128*es.length:=by
  intro es;induction es with
  | nil=>intro s _;simp
  | cons a l ih =>
    intro s h;have h1:=ih (padv 2 (s++pS 2 a)) fun e he=>h e (ztK _ he);have h2:=h a (by simp);rw [zd3,ztS] at h1;unfold bgn at h1;rw [if_neg (by decide)] at h1;rw [List.foldl_cons,zud];omega
 have:=key es ⟨#[]⟩ h
 have z:(⟨#[]⟩:ByteArray).size=0:=rfl;rw [z,zub] at this;exact this
end
end Go.Proofs.YtidndekacnmihaaGreat
