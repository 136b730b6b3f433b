/- Parts of a proof. -/
import Derived.Test.YtidndekacnmihaaGreatC01
set_option linter.all false
set_option maxHeartbeats 8000000
set_option maxRecDepth 100000
namespace Go.Proofs.YtidndekacnmihaaGreat
open Bool renaming true→D,false→I
open Ending renaming returned→z
open Go renaming World→r,Calls→E
open Go.RowKit renaming Below→H,intOf→J
open Go.RowKit.Below renaming refl→K
open IntKind renaming u64→q,i64→F
open Obj renaming cells→M
open Option renaming some→f,none→G
open Tryz renaming prog→A
open Value renaming int→d,string→C,bool→L
open Tryz
variable {B:Nat}
open Go.RowKit
namespace Vi
def val:List Nat→Nat
 | []=>0
 | b :: l=>b % 128+128*val l
def put (n:Nat):List Nat:=if n<128 then [n] else (n % 128+128) :: put (n / 128)
termination_by n
decreasing_by omega
theorem zbw (n:Nat) (h:n<128):put n=[n]:=by rw [put,if_pos h]
theorem zei (n:Nat) (h:128≤n):put n=(n % 128+128) :: put (n / 128):=by rw [put,if_neg (by omega)]
theorem zra {p:Nat→Prop} (h0:∀ n,n<128→p n) (h1:∀ n,128≤n→p (n / 128)→p n) (n:Nat):p n:=by
 induction n using Nat.strongRecOn with
 | _ n ih =>
   rcases zum n 128 with h|h
   ·exact h0 n h
   ·exact h1 n h (ih _ (by omega))
theorem zeS (n:Nat):∃ pre b,put n=pre++[b]∧(∀ x∈pre,128≤x∧x<256)∧b<128∧(pre≠[]→b≠0)∧val (put n)=n∧128 ^ pre.length*b≤n:=by
 induction n using zra with
 | h0 n h =>
   refine ⟨[],n,by rw [zbw n h];rfl,by simp,h,by simp,?_,by simp⟩;rw [zbw n h];simp only [val];omega
 | h1 n h ih =>
   obtain ⟨pre,b,e,hp,hb,hz,hv,hs⟩:=ih;refine ⟨(n % 128+128) :: pre,b,by rw [zei n h,e];rfl,?_,hb,fun _=>?_,?_,?_⟩
   ·intro x hx;rcases ztT.1 hx with rfl|hx
    ·omega
    ·exact hp x hx
   ·rcases pre with _|⟨c,pre⟩
    ·intro hb0;rw [e,hb0] at hv;simp only [zuK,val] at hv;omega
    ·exact hz (by simp)
   ·rw [zei n h];simp only [val];rw [hv];omega
   ·rw [zud,Nat.pow_succ]
    have:128 ^ pre.length*128*b=128*(128 ^ pre.length*b):=by rw [Nat.mul_comm _ 128,Nat.mul_assoc]
    omega
theorem zgl:∀ (l m:List Nat),val (l++m)=val l+128 ^ l.length*val m
 | [],m=>by simp [val]
 | b :: l,m=>by
   rw [List.cons_append];simp only [val];rw [zgl l m,zud,Nat.pow_succ,Nat.mul_add,Nat.mul_comm _ 128,Nat.mul_assoc];omega
theorem zjH (l:List Nat) (b:Nat):val (l++[b])=val l+128 ^ l.length*(b % 128):=by
 rw [zgl];simp [val]
theorem zqd:∀ (l:List Nat),val l<128 ^ l.length
 | []=>by simp [val]
 | b :: l=>by
   have h:=zqd l;rw [zud,Nat.pow_succ];simp only [val];omega
theorem zqe (n:Nat):∀ x∈put n,x<256:=by
 obtain ⟨pre,b,e,hp,hb,-⟩:=zeS n;rw [e];intro x hx;rcases zt1.1 hx with hx|hx
 ·exact (hp x hx).2
 ·rw [zul] at hx;omega
theorem zb8 (n:Nat):0<(put n).length:=by
 obtain ⟨pre,b,e,-⟩:=zeS n;rw [e];simp
theorem zaJ (n k:Nat) (h:n<128 ^ (k+1)):(put n).length≤k+1:=by
 induction k generalizing n with
 | zero=>rw [zbw n (by simpa using h)];simp
 | succ k ih =>
   rcases zum n 128 with h1|h1
   ·rw [zbw n h1];simp
   ·have h2:=ih (n / 128) (by rw [Nat.div_lt_iff_lt_mul (by omega)];rw [Nat.pow_succ] at h;exact h);rw [zei n h1,zud];omega
theorem zmp:∀ (pre:List Nat) (b:Nat),(∀ x∈pre,128≤x∧x<256)→b<128→(pre≠[]→b≠0)→put (val (pre++[b]))=pre++[b]
 | [],b,_,hb,_=>by
   simp only [zuK,val];rw [zbw _ (by omega)]
   congr 1;omega
 | x :: pre,b,hp,hb,hz=>by
   have hx:=hp x (by simp);have h0:=hz (by simp);have ih:=zmp pre b (fun y hy=>hp y (by simp [hy])) hb (fun _=>h0)
   have hv:0<val (pre++[b]):=by
    rw [zjH]
    have:0<128 ^ pre.length*(b % 128):=Nat.mul_pos (Nat.pow_pos (by omega)) (by omega)
    omega
   rw [List.cons_append];simp only [val];rw [zei _ (by omega)];have e1:(x % 128+128*val (pre++[b])) % 128+128=x:=by omega
   have e2:(x % 128+128*val (pre++[b])) / 128=val (pre++[b]):=by omega
   rw [e1,e2,ih]
def cnt (l:List Nat):Nat:=(l.takeWhile fun b=>decide (128≤b)).length
def okL (l:List Nat):Bool:=decide (cnt l≤9∧cnt l<l.length∧(cnt l=0∨l.getD (cnt l) 0≠0)∧(cnt l=9→l.getD 9 0≤1))
def zrb (l:List Nat):Nat:=if okL l=D then val (l.take (cnt l+1)) else 0
def zsw (l:List Nat):Nat:=if okL l=D then cnt l+1 else l.length
theorem zmq:∀ (l:List Nat) (i:Nat),(∀ j,j<i→128≤l.getD j 0)→i<l.length→l.getD i 0<128→cnt l=i
 | [],i,_,hi,_=>by simp at hi
 | b :: l,0,_,_,hb=>by
   have:b<128:=by simpa using hb
   unfold cnt;rw [zuS,if_neg (by simpa using this)];rfl
 | b :: l,i+1,h,hi,hb=>by
   have h0:128≤b:=by simpa using h 0 (by omega)
   have ih:=zmq l i (fun j hj=>by simpa using h (j+1) (by omega)) (by simpa using hi) (by simpa using hb);unfold cnt at ih ⊢;rw [zuS,if_pos (by simpa using h0),zud,ih]
theorem zqf:∀ (l:List Nat) (i:Nat),(∀ j,j<i→128≤l.getD j 0)→i≤cnt l
 | _,0,_=>ztO _
 | [],i+1,h=>by have:=h 0 (by omega);simp at this
 | b :: l,i+1,h=>by
   have h0:128≤b:=by simpa using h 0 (by omega)
   have ih:=zqf l i (fun j hj=>by simpa using h (j+1) (by omega));unfold cnt at ih ⊢;rw [zuS,if_pos (by simpa using h0),zud];omega
theorem zmr:∀ (l:List Nat),∀ x∈l.take (cnt l),128≤x
 | []=>by simp
 | b :: l=>by
   unfold cnt;rw [zuS]
   split
   ·rename_i hb
    rw [zud,List.take_succ_cons];intro x hx;rcases ztT.1 hx with rfl|hx
    ·simpa using hb
    ·exact zmr l x hx
   ·simp
theorem zjI (l:List Nat) (i:Nat) (h:∀ j,j<i→128≤l.getD j 0) (hi:i=10∨l.length≤i):okL l=I:=by
 have hc:=zqf l i h;unfold okL;rw [decide_eq_false_iff_not];rintro ⟨h1,h2,-⟩;omega
theorem zh0 (l:List Nat) (i:Nat) (h:∀ j,j<i→128≤l.getD j 0) (hi:i<l.length) (hb:l.getD i 0<128) (h9:i≤9) :
 okL l=decide ((i=0∨l.getD i 0≠0)∧(i=9→l.getD i 0≤1)):=by
 have hc:=zmq l i h hi hb;unfold okL;rw [hc,decide_eq_decide];constructor
 ·rintro ⟨_,_,h3,h4⟩;exact ⟨h3,fun e=>by subst e;exact h4 rfl⟩
 ·rintro ⟨h3,h4⟩;exact ⟨h9,hi,h3,fun e=>by subst e;exact h4 rfl⟩
theorem ziO (l:List Nat) (i:Nat) (h:∀ j,j<i→128≤l.getD j 0) (hi:i<l.length) (hb:l.getD i 0<128) (ho:okL l=D) :
 zrb l=val (l.take (i+1))∧zsw l=i+1:=by
 have hc:=zmq l i h hi hb;unfold zrb zsw;rw [if_pos ho,if_pos ho,hc];exact ⟨rfl,rfl⟩
theorem zft (l:List Nat) (i:Nat) (hi:i<l.length):l.take (i+1)=l.take i++[l.getD i 0]:=by
 rw [zuU hi,zuq,zt2 hi];rfl
theorem zgX (l:List Nat) (i:Nat) (hi:i<l.length):val (l.take (i+1))=val (l.take i)+128 ^ i*(l.getD i 0 % 128):=by
 rw [zft l i hi,zjH,zt5,Nat.min_eq_left (by omega)]
theorem zcD (l:List Nat) (i:Nat):val (l.take i)<128 ^ i:=by
 refine zuk (zqd _) ?_;exact Nat.pow_le_pow_right (by omega) (by rw [zt5];omega)
theorem zdw (l:List Nat) (i:Nat) (h:i≤9):val (l.take i)<9223372036854775808:=by
 refine zuk (zcD l i) ?_;exact ztL (Nat.pow_le_pow_right (by omega) h) (by decide)
theorem zms (n:Nat) (hn:n<18446744073709551616) (t:List Nat):okL (put n++t)=D∧zrb (put n++t)=n∧zsw (put n++t)=(put n).length:=by
 obtain ⟨pre,b,e,hp,hb,hz,hv,hs⟩:=zeS n;have hl:(put n).length≤10:=zaJ n 9 (Nat.lt_trans hn (by decide))
 have hg:∀ j,j<pre.length→128≤(put n++t).getD j 0:=by
  intro j hj;rw [e,zuc,zuq,zuR hj,zt2 hj];exact (hp _ (List.getElem_mem hj)).1
 have hg2:(put n++t).getD pre.length 0=b:=by
  rw [e,zuc,zuq,List.getElem?_append_right (ztI _)];simp
 have hlen:(put n).length=pre.length+1:=by rw [e];simp
 have hlt:pre.length<(put n++t).length:=by rw [zt4];omega
 have hok:okL (put n++t)=D:=by
  rw [zh0 _ pre.length hg hlt (by omega) (by omega),hg2];rw [decide_eq_true_iff];refine ⟨?_,fun h9=>?_⟩
  ·rcases pre with _|⟨c,pre⟩
   ·exact .inl rfl
   ·exact .inr (hz (by simp))
  ·rw [h9] at hs
   have:(128:Nat) ^ 9=9223372036854775808:=by decide
   omega
 obtain ⟨h1,h2⟩:=ziO _ pre.length hg hlt (by omega) hok;refine ⟨hok,?_,by omega⟩;rw [h1,←hlen,List.take_left' rfl,hv]
theorem zjJ (l:List Nat) (i:Nat) (hl:∀ x∈l,x<256) (h:∀ j,j<i→128≤l.getD j 0) (hi:i<l.length) (hb:l.getD i 0<128) (h9:i≤9) :
 (put (val (l.take (i+1)) % 18446744073709551616)=l.take (i+1))↔okL l=D:=by
 have ht:=zft l i hi
 have hpre:∀ x∈l.take i,128≤x∧x<256:=by
  intro x hx;refine ⟨?_,hl x (List.mem_of_mem_take hx)⟩;obtain ⟨j,hj,rfl⟩:=List.getElem_of_mem hx;rw [zt5] at hj
  have:=h j (by omega)
  rw [zuq,zt2 (by omega)] at this;rw [List.getElem_take];exact this
 have hlen:(l.take i).length=i:=by rw [zt5];omega
 have hvt:=zgX l i hi;have hv0:=zcD l i;rw [zh0 l i h hi hb h9,decide_eq_true_iff];generalize l.getD i 0=b at *;have hbm:b % 128=b:=zuj hb;rw [hbm] at hvt;constructor
 ·intro hp;obtain ⟨pre',b',e',hp',hb',hz',hv',hs'⟩:=zeS (val (l.take (i+1)) % 18446744073709551616);rw [hp] at e' hv';have hvs:val (l.take (i+1))<18446744073709551616:=by rw [hv'];exact Nat.mod_lt _ (by omega)
  obtain ⟨e1,e2⟩:=List.append_inj' (e'.symm.trans ht) rfl;obtain rfl:b'=b:=by simpa using e2
  constructor
  ·rcases Nat.eq_zero_or_pos i with h0|h0
   ·exact .inl h0
   ·refine .inr (hz' ?_);rw [e1];intro hn;rw [hn] at hlen;simp at hlen;omega
  ·intro e;subst e
   have:(128:Nat) ^ 9=9223372036854775808:=by decide
   rw [this] at hvt;omega
 ·rintro ⟨h1,h2⟩
  have hvs:val (l.take (i+1))<18446744073709551616:=by
   rcases zum i 9 with h8|h8
   ·exact Nat.lt_trans (zdw l (i+1) (by omega)) (by omega)
   ·obtain rfl:i=9:=by omega
    have hb1:=h2 rfl
    have:(128:Nat) ^ 9=9223372036854775808:=by decide
    rw [this] at hvt hv0;omega
  rw [zuj hvs,ht];refine zmp _ b hpre hb (fun hn=>?_);rcases h1 with rfl|h1
  ·simp at hn
  ·exact h1
end Vi
theorem info5:(prog.info? 5).map (fun i=>(i.zero,i.size,i.bytes))=f (f (d .u8 0),1,1):=by kernel_rfl
namespace Vi
def cells (l:List Nat):List Value:=l.map fun (x:Nat)=>d .u8 ((x:Nat):Int)
def str (l:List Nat):ByteArray:=strOfNums (l.map fun (x:Nat)=>((x:Nat):Int))
def zaE (n:Nat):ByteArray:=str (put n)
theorem zib (l:List Nat):(cells l).length=l.length:=by simp [cells]
theorem zb2 (l:List Nat):(str l).size=l.length:=by unfold str;rw [strOfNums_size];simp
theorem zdf (l:List Nat) (x:Nat):cells l++[d .u8 (x:Int)]=cells (l++[x]):=by simp [cells]
theorem ztn (m:Nat) (_h:128≤m):bits BinOp.or IntKind.u8 ((m:Int) % 256) 128=((m % 128+128:Nat):Int):=by
 have h1:m % 256<256:=Nat.mod_lt _ (by omega);have e1:(m:Int) % 256=((m % 256:Nat):Int):=by omega
 have h2:bits BinOp.or IntKind.u8 ((m % 256:Nat):Int) 128=((m % 256 ||| 128:Nat):Int):=u8_or_nat (m % 256) 128 h1 (by omega);rw [e1,h2]
 congr 1
 have h:∀ x:Nat,x<256→x ||| 128=x % 128+128:=by decide +kernel
 rw [h _ h1];omega
end Vi
theorem zdg {w:r} {base:Nat} {v:Value} {n:Nat} {l:List Nat} (h:w.ownsRow base 5 1 v n (Vi.cells l)):(convert 78 9 v).run A w=.ok (C (Vi.str l)) w:=by
 have hn:l.length=n:=by have:=h.1;rw [Vi.zib] at this;omega
 rcases Nat.eq_zero_or_pos n with h0|h0
 ·subst h0;have hl:l=[]:=zuX (by omega);subst hl;rcases h.2 with ⟨rfl,_⟩|⟨g,cap,cur,rfl,_⟩
  ·exact run_convert_bytes_nil w 78 5 underlying78 underlying5 0 0 9 underlying9
  ·exact run_convert_bytes_arg (P:=A) w 78 5 underlying78 underlying5 g 0 0 cap [] rfl (by intro i hi;omega) 9 underlying9
 ·obtain ⟨g,cap,rfl,_⟩:=h.form h0;refine run_convert_bytes_arg (P:=A) w 78 5 underlying78 underlying5 g 0 n cap (l.map fun (x:Nat)=>((x:Nat):Int)) (by simpa using hn) (fun i hi=>?_) 9 underlying9;have hc:=h.cellAt i (by omega);rw [zub,hc];have hi':i<l.length:=by omega
  simp [Vi.cells,zuq,zt2 hi']
theorem zcX (n:Nat) (w:r) (hn:n<18446744073709551616) :
 E A 211 #[d q n] w fun e w'=>e=z (C (Vi.zaE n))∧H w.heap.size w w':=by
 obtain ⟨i0,hi,hz0,hz1,hz2⟩:=info_parts info5;go_enter func211,ntmps211
 go_wp2_with (at_make;refine wpList_make_own _ rfl _ _ 78 rfl w.heap.size 5 i0 (d .u8 0) 1 underlying78 hi hz0 hz1 F F _ 10 rfl rfl rfl (by rw [hz2];omega) (by unfold maxLen;omega) (ztI _) ?_;intro w0 hown0 hgrow0)
 have HN:=zh hn;clear hn
 go_loopw [0,3] (fun m v wr=>∃ (k:Nat) (pre:List Nat),m=d q (k:Int)∧k<18446744073709551616∧Hid (pre++Vi.put k=Vi.put n)∧wr.ownsRow w.heap.size 5 1 v pre.length (Vi.cells pre)∧H w.heap.size w wr) (fun m _ _=>(J m).toNat)
 case atStart=>exact ⟨n,[],rfl,HN.out,rfl,hown0,(K _ _).grown hgrow0 (ztI _) (by simp)⟩
 case round =>
  obtain ⟨k,pre,rfl,hk,HP,hown,hb⟩:=hrel
  have hpl:pre.length≤9:=by
   have h1:=Vi.zaJ n 9 (Nat.lt_trans HN.out (by decide));have h2:=Vi.zb8 k;have h3:=congrArg List.length HP.out;rw [zt4] at h3;omega
  have hsz:=hb.size;have HK:=zh hk;clear hk
  by_cases hlt:128≤k
  ·have HO:=zh (Vi.ztn k hlt)
   go_wp2_with (at_builtin;refine wpList_append_own _ rfl _ _ 78 rfl w.heap.size 5 i0 (d .u8 0) 1 1 underlying78 hi hz0 hz1 hz2 rfl (by decide) _ _ _ rfl (hown.alloc _) ⟨wr.heap.size,0,G⟩ 1 1 [d .u8 _] rfl rfl (cell_one_new _ _ _) (fun x hx=>by simp at hx;subst hx;rfl) (by unfold maxLen;omega) (by omega) (by simp;omega) ?_;intro v' w3 hown' hgrow3 hnil3)
   go_roundw
   case rel =>
    rw [HO.out,Vi.zdf] at hown';refine ⟨k / 128,pre++[k % 128+128],by first|rfl|(push_cast;rfl),by have:=HK.out;omega,?_,by rw [zt4];exact hown',?_⟩
    ·have h1:=HP.out;rw [Vi.zei k hlt] at h1;rw [zuc];exact h1
    ·exact (hb.alloc hsz _).grown hgrow3 (by simp;omega) (fun g hg=>(hown.lt g hg).1)
   case measure=>simp [J];omega
  ·have HM:Hid ((k:Int) % 256=(k:Int)):=by show _=_;omega
   have hk1:k<128:=by omega
   go_wp2_with (at_builtin;refine wpList_append_own _ rfl _ _ 78 rfl w.heap.size 5 i0 (d .u8 0) 1 1 underlying78 hi hz0 hz1 hz2 rfl (by decide) _ _ _ rfl (hown.alloc _) ⟨wr.heap.size,0,G⟩ 1 1 [d .u8 _] rfl rfl (cell_one_new _ _ _) (fun x hx=>by simp at hx;subst hx;rfl) (by unfold maxLen;omega) (by omega) (by simp;omega) ?_;intro v' w3 hown' hgrow3 hnil3;(first|rw [HM.out] at hown'|skip);(rw [Vi.zdf] at hown');(have hcv:=zdg (l:=pre++[k]) hown'))
   go_ret;refine ⟨?_,(hb.alloc hsz _).grown hgrow3 (by simp;omega) (fun g hg=>(hown.lt g hg).1)⟩;have h1:=HP.out;rw [Vi.zbw k hk1] at h1;rw [h1];rfl
theorem zbH (n:Nat) (w:r) (hn:n<18446744073709551616) :
 E A 171 #[d q n] w fun e w'=>e=z (C (Vi.zaE n))∧H w.heap.size w w':=by
 obtain ⟨i0,hi,hz0,hz1,hz2⟩:=info_parts info5;have HN:=zh hn;clear hn;go_enter func171,ntmps171;go_wp2
 go_loopw [0,3] (fun m v wr=>∃ (k:Nat) (pre:List Nat),m=d q (k:Int)∧k<18446744073709551616∧Hid (pre++Vi.put k=Vi.put n)∧wr.ownsRow w.heap.size 5 1 v pre.length (Vi.cells pre)∧H w.heap.size w wr) (fun m _ _=>(J m).toNat)
 case atStart=>exact ⟨n,[],rfl,HN.out,rfl,zuF _ _ _ _,K _ _⟩
 case round =>
  obtain ⟨k,pre,rfl,hk,HP,hown,hb⟩:=hrel
  have hpl:pre.length≤9:=by
   have h1:=Vi.zaJ n 9 (Nat.lt_trans HN.out (by decide));have h2:=Vi.zb8 k;have h3:=congrArg List.length HP.out;rw [zt4] at h3;omega
  have hsz:=hb.size;have hki:(k:Int)≤18446744073709551615:=by omega
  clear hk
  by_cases hlt:128≤k
  ·go_wp2_with (at_builtin;refine wpList_append_own _ rfl _ _ 78 rfl w.heap.size 5 i0 (d .u8 0) 1 1 underlying78 hi hz0 hz1 hz2 rfl (by decide) _ _ _ rfl (hown.alloc _) ⟨wr.heap.size,0,G⟩ 1 1 [d .u8 _] rfl rfl (cell_one_new _ _ _) (fun x hx=>by simp at hx;subst hx;rfl) (by unfold maxLen;omega) (by omega) (by simp;omega) ?_;intro v' w3 hown' hgrow3 hnil3)
   go_roundw
   case rel =>
    have HO:Hid (((k:Int) % 128+128)=((k % 128+128:Nat):Int)):=by show _=_;omega
    rw [HO.out,Vi.zdf] at hown';refine ⟨k / 128,pre++[k % 128+128],by first|rfl|(push_cast;rfl),by omega,?_,by rw [zt4];exact hown',?_⟩
    ·have h1:=HP.out;rw [Vi.zei k hlt] at h1;rw [zuc];exact h1
    ·exact (hb.alloc hsz _).grown hgrow3 (by simp;omega) (fun g hg=>(hown.lt g hg).1)
   case measure=>simp [J];omega
  ·have hk1:k<128:=by omega
   go_wp2_with (at_builtin;refine wpList_append_own _ rfl _ _ 78 rfl w.heap.size 5 i0 (d .u8 0) 1 1 underlying78 hi hz0 hz1 hz2 rfl (by decide) _ _ _ rfl (hown.alloc _) ⟨wr.heap.size,0,G⟩ 1 1 [d .u8 _] rfl rfl (cell_one_new _ _ _) (fun x hx=>by simp at hx;subst hx;rfl) (by unfold maxLen;omega) (by omega) (by simp;omega) ?_;intro v' w3 hown' hgrow3 hnil3;(rw [Vi.zdf] at hown');(have hcv:=zdg (l:=pre++[k]) hown'))
   go_ret;refine ⟨?_,(hb.alloc hsz _).grown hgrow3 (by simp;omega) (fun g hg=>(hown.lt g hg).1)⟩;have h1:=HP.out;rw [Vi.zbw k hk1] at h1;rw [h1];rfl
theorem zaW (n:Nat) (hn:n<18446744073709551616):(Vi.zaE n).size≤10:=by
 unfold Vi.zaE;rw [Vi.zb2];exact Vi.zaJ n 9 (Nat.lt_trans hn (by decide))
section
def Rd (T g:Nat) (s:ByteArray) (bad:Bool) (w:r):Prop:=w.heap[g]?=f (M #[C s,L bad] T (0,0))
def rdp (g:Nat):Value:=.pointer (f ⟨g,0,G⟩)
section
variable {T g:Nat} {s:ByteArray} {bad:Bool} {w w':r}
theorem Rd.lt (h:Rd T g s bad w):g<w.heap.size:=by
 rcases zum g w.heap.size with hlt|hge
 ·exact hlt
 ·unfold Rd at h;rw [Array.getElem?_eq_none hge] at h;cases h
theorem Rd.cell0 (h:Rd T g s bad w):w.cell? ⟨g,0,G⟩=f (C s):=zcr w g 0 _ T (0,0) h
theorem Rd.cell1 (h:Rd T g s bad w):w.cell? ⟨g,1,G⟩=f (L bad):=zcr w g 1 _ T (0,0) h
theorem Rd.frozen (h:Rd T g s bad w) (i:Nat):w.frozen? ⟨g,i,G⟩=I:=by
 unfold Rd at h;simp [World.frozen?,h]
theorem Rd.new (w:r) (T:Nat) (s:ByteArray) (bad:Bool):Rd T w.heap.size s bad (w.alloc (M #[C s,L bad] T)):=ztJ w _
theorem Rd.set0 (h:Rd T g s bad w) (t:ByteArray):Rd T g t bad (w.setCell ⟨g,0,G⟩ (C t)):=by
 unfold Rd at h ⊢;simp [World.setCell,Array.getElem?_modify,h]
theorem Rd.set1 (h:Rd T g s bad w) (b:Bool):Rd T g s b (w.setCell ⟨g,1,G⟩ (L b)):=by
 unfold Rd at h ⊢;simp [World.setCell,Array.getElem?_modify,h]
theorem Rd.grown {row:Option Nat} (h:Rd T g s bad w) (hb:w.grownBy w' row) (hg:f g≠row):Rd T g s bad w':=(hb.block g h.lt hg).trans h
theorem Rd.below (h:Rd T g s bad w) (hb:H B w w') (hg:g<B):Rd T g s bad w':=(hb.block g hg).trans h
theorem Rd.drew (h:Rd T g s bad w):Rd T g s bad w.drew:=h
theorem za6 {i:Nat} (v:Value):w.grownBy (w.setCell ⟨g,i,G⟩ v) (f g) :=
 ⟨rfl,rfl,rfl,by simp,fun k _ hk=>heap_setCell_other w ⟨g,i,G⟩ k v (fun e=>hk (by simp [e]))⟩
theorem zbb (h:H w.heap.size w w') (row:Option Nat):w.grownBy w' row:=⟨h.os,h.tape,h.output,h.size,fun k hk _=>h.block k hk⟩
theorem zaa {a:r} (h:H B a w) (hg:w.grownBy w' (f g)) (hB:B≤w.heap.size) (hr:B≤g):H B a w' :=
 h.grown hg hB (fun k hk=>by injection hk with hk;omega)
end
namespace Vi
def tlB (s:ByteArray):ByteArray:=s.extract 1 s.size
def hdB (s:ByteArray):Nat:=(s.data.toList.getD 0 0).toNat
end Vi
theorem zbE (s:ByteArray) (w:r):E A 223 #[C s] w fun e w'=>e=z (rdp w.heap.size)∧w'=w.alloc (M #[C s,L I] 327):=by
 go_enter func223,ntmps223;go_wp2;go_ret;exact ⟨rfl,rfl⟩
theorem zcE (s:ByteArray) (w:r):E A 189 #[C s] w fun e w'=>e=z (rdp w.heap.size)∧w'=w.alloc (M #[C s,L I] 261):=by
 go_enter func189,ntmps189;go_wp2;go_ret;exact ⟨rfl,rfl⟩
theorem zcF (g:Nat) (s:ByteArray) (bad:Bool) (w:r) (h:Rd 327 g s bad w) :
 E A 269 #[rdp g] w fun e w'=>e=z (.tuple #[])∧Rd 327 g ⟨#[]⟩ D w'∧w.grownBy w' (f g):=by
 have c0:=h.cell0;have c1:=h.cell1;have f0:=h.frozen 0;have f1:=h.frozen 1;unfold rdp;go_enter func269,ntmps269;go_wp2;go_end0;exact ⟨rfl,(h.set0 _).set1 _,(za6 _).trans (za6 _)⟩
theorem zfx (g:Nat) (s:ByteArray) (bad:Bool) (w:r) (h:Rd 261 g s bad w) :
 E A 230 #[rdp g] w fun e w'=>e=z (.tuple #[])∧Rd 261 g ⟨#[]⟩ D w'∧w.grownBy w' (f g):=by
 have c0:=h.cell0;have c1:=h.cell1;have f0:=h.frozen 0;have f1:=h.frozen 1;unfold rdp;go_enter func230,ntmps230;go_wp2;go_end0;exact ⟨rfl,(h.set1 _).set0 _,(za6 _).trans (za6 _)⟩
theorem zex (g:Nat) (s:ByteArray) (bad:Bool) (w:r) (h:Rd 327 g s bad w) :
 E A 227 #[rdp g] w fun e w'=>e=z (L (!bad))∧w=w':=by
 have c1:=h.cell1;unfold rdp;go_enter func227,ntmps227;go_wp2;go_ret;exact ⟨rfl,rfl⟩
theorem zbr (g:Nat) (s:ByteArray) (bad:Bool) (w:r) (h:Rd 327 g s bad w) :
 E A 226 #[rdp g] w fun e w'=>e=z (d F s.size)∧w=w':=by
 have c0:=h.cell0;unfold rdp;go_enter func226,ntmps226;go_wp2;go_ret;exact ⟨rfl,rfl⟩
theorem zmZ (g:Nat) (bad:Bool) (w:r) (h:Rd 327 g ⟨#[]⟩ bad w) :
 E A 289 #[rdp g] w fun e w'=>e=z (d .u8 0)∧Rd 327 g ⟨#[]⟩ D w'∧w.grownBy w' (f g):=by
 have c0:=h.cell0;have hF:=zcF g _ bad w h;have HF:=zh hF;clear hF;unfold rdp at *;go_enter func289,ntmps289
 go_wp2_with fail
 refine HF.out.mono ?_;rintro e w1 ⟨rfl,h1,h2⟩;go_wp2;go_ret;exact ⟨rfl,h1,h2⟩
theorem zic (g:Nat) (s:ByteArray) (bad:Bool) (w:r) (h:Rd 327 g s bad w) (hs:0<s.size) (hm:s.size≤281474976710656) :
 E A 289 #[rdp g] w fun e w'=>e=z (d .u8 (Vi.hdB s))∧Rd 327 g (Vi.tlB s) bad w'∧w.grownBy w' (f g):=by
 have c0:=h.cell0;have f0:=h.frozen 0
 have hne:s.toList.isEmpty=I:=by
  rw [zur,List.isEmpty_eq_false_iff];intro hn;have h2:s.size=s.data.toList.length:=by simp
  rw [hn,List.length_nil] at h2;omega
 have hs':(0:Int)<s.size:=by omega
 unfold rdp;go_enter func289,ntmps289;go_wp2;go_ret;refine ⟨?_,h.set0 _,za6 _⟩
 have e:Vi.hdB s=s[0].toNat:=by
  unfold Vi.hdB;rw [zuq,zt2 (by simpa using hs)];rfl
 rw [e];rfl
theorem zm0 (s:ByteArray) (w:r) (hs:s.size≤281474976710656) :
 E A 270 #[C s] w fun e w'=>e=z (C s)∧H w.heap.size w w':=by
 go_enter func270,ntmps270
 go_wp2_with fail
 refine (stringslite_Clone s w hs).mono ?_;rintro e w1 ⟨rfl,hb⟩;go_wp2;go_ret;exact ⟨rfl,hb⟩
namespace Vi
def zbC (s:ByteArray) (n:Int):Bool:=decide (0≤n∧n≤s.size)
def zcG (s:ByteArray) (n:Int):ByteArray:=if zbC s n=D then s.extract 0 n.toNat else ⟨#[]⟩
def zdh (s:ByteArray) (n:Int):ByteArray:=if zbC s n=D then s.extract n.toNat s.size else ⟨#[]⟩
end Vi
theorem zpA (g:Nat) (s:ByteArray) (bad:Bool) (n:Int) (w:r) (h:Rd 327 g s bad w) (hn:n<0∨s.size<n) :
 E A 225 #[rdp g,d F n] w fun e w'=>e=z (C ⟨#[]⟩)∧Rd 327 g ⟨#[]⟩ D w'∧w.grownBy w' (f g):=by
 have hL:=zh (zbr g _ bad w h);have hF:=zh (zcF g _ bad w h);rcases hn with hn|hn
 ·unfold rdp at *;go_enter func225,ntmps225
  go_wp2_with fail
  refine hF.out.mono ?_;rintro e w1 ⟨rfl,h1,h2⟩;go_wp2;go_ret;exact ⟨rfl,h1,h2⟩
 ·have hn0:¬ n<0:=by omega
  have hd:decide (n<0)=I:=by simpa using hn0
  unfold rdp at *;go_enter func225,ntmps225
  go_wp2_with fail
  refine hL.out.mono ?_;rintro e w1 ⟨rfl,rfl⟩
  go_wp2_with fail
  refine hF.out.mono ?_;rintro e w1 ⟨rfl,h1,h2⟩;go_wp2;go_ret;exact ⟨rfl,h1,h2⟩
theorem zm1 (g:Nat) (s:ByteArray) (bad:Bool) (n:Nat) (w:r) (h:Rd 327 g s bad w) (hm:s.size≤281474976710656) (hn:n≤s.size) :
 E A 225 #[rdp g,d F n] w fun e w'=>e=z (C (s.extract 0 n))∧Rd 327 g (s.extract n s.size) bad w'∧w.grownBy w' (f g):=by
 have hL:=zh (zbr g _ bad w h);have c0:=h.cell0;have f0:=h.frozen 0;have hx:(s.extract 0 n).size≤281474976710656:=by rw [zue];omega
 have hn0:¬ ((n:Int)<0):=by omega
 have hn1:(n:Int)≤s.size:=by omega
 unfold rdp at *;go_enter func225,ntmps225
 go_wp2_with fail
 refine hL.out.mono ?_;rintro e w1 ⟨rfl,rfl⟩
 go_wp2_with fail
 refine (zm0 _ _ hx).mono ?_;rintro e w1 ⟨rfl,hb⟩;go_wp2;go_ret;have hr:=h.set0 (s.extract n s.size);exact ⟨rfl,hr.below hb hr.lt,(za6 _).trans (zbb hb _)⟩
theorem zby (g:Nat) (s:ByteArray) (bad:Bool) (n:Int) (w:r) (h:Rd 327 g s bad w) (hm:s.size≤281474976710656) :
 E A 225 #[rdp g,d F n] w fun e w'=>e=z (C (Vi.zcG s n))∧Rd 327 g (Vi.zdh s n) (bad||!Vi.zbC s n) w'∧w.grownBy w' (f g):=by
 by_cases hn:0≤n∧n≤s.size
 ·have e:Vi.zbC s n=D:=ztN hn;unfold Vi.zcG Vi.zdh;rw [if_pos e,if_pos e,e,Bool.not_true,zuH];obtain ⟨k,rfl⟩:=ztW hn.1;exact zm1 g s bad k w h hm (by omega)
 ·have e:Vi.zbC s n=I:=ztM hn;unfold Vi.zcG Vi.zdh;rw [e,if_neg (by decide),if_neg (by decide),zux,zus];exact zpA g s bad n w h (by omega)
theorem zid (g:Nat) (s:ByteArray) (bad:Bool) (n:Int) (w:r) (h:Rd 261 g s bad w) (hn:bad=D∨n<0∨s.size<n) :
 E A 229 #[rdp g,d F n] w fun e w'=>e=z (C ⟨#[]⟩)∧Rd 261 g ⟨#[]⟩ D w'∧w.grownBy w' (f g):=by
 have c0:=h.cell0;have c1:=h.cell1;have hF:=zh (zfx g _ bad w h)
 cases bad
 ·rcases (show n<0∨(0≤n∧s.size<n) by rcases hn with hn|hn|hn<;>first|(cases hn;done)|omega) with hn|⟨hn0,hn⟩
  ·unfold rdp at *;go_enter func229,ntmps229
   go_wp2_with fail
   refine hF.out.mono ?_;rintro e w1 ⟨rfl,h1,h2⟩;go_wp2;go_ret;exact ⟨rfl,h1,h2⟩
  ·have hn0':¬ n<0:=by omega
   unfold rdp at *;go_enter func229,ntmps229
   go_wp2_with fail
   refine hF.out.mono ?_;rintro e w1 ⟨rfl,h1,h2⟩;go_wp2;go_ret;exact ⟨rfl,h1,h2⟩
 ·clear hn;unfold rdp at *;go_enter func229,ntmps229
  go_wp2_with fail
  refine hF.out.mono ?_;rintro e w1 ⟨rfl,h1,h2⟩;go_wp2;go_ret;exact ⟨rfl,h1,h2⟩
theorem zkQ (g:Nat) (s:ByteArray) (n:Nat) (w:r) (h:Rd 261 g s I w) (_hm:s.size≤281474976710656) (hn:n≤s.size) :
 E A 229 #[rdp g,d F n] w fun e w'=>e=z (C (s.extract 0 n))∧Rd 261 g (s.extract n s.size) I w'∧w.grownBy w' (f g):=by
 have c0:=h.cell0;have c1:=h.cell1;have f0:=h.frozen 0;have hn0:¬ ((n:Int)<0):=by omega
 have hn1:(n:Int)≤s.size:=by omega
 unfold rdp at *;go_enter func229,ntmps229;go_wp2;go_ret;exact ⟨rfl,h.set0 _,za6 _⟩
def Vi.Sane (s:ByteArray) (bad:Bool):Prop:=bad=D→s=⟨#[]⟩
theorem zdi (g:Nat) (s:ByteArray) (bad:Bool) (n:Int) (w:r) (h:Rd 261 g s bad w) (hs:Vi.Sane s bad) (hm:s.size≤281474976710656) :
 E A 229 #[rdp g,d F n] w fun e w'=>e=z (C (Vi.zcG s n))∧Rd 261 g (Vi.zdh s n) (bad||!Vi.zbC s n) w'∧w.grownBy w' (f g):=by
 cases bad
 ·by_cases hn:0≤n∧n≤s.size
  ·have e:Vi.zbC s n=D:=ztN hn;unfold Vi.zcG Vi.zdh;rw [if_pos e,if_pos e,e,Bool.not_true,zuH];obtain ⟨k,rfl⟩:=ztW hn.1;exact zkQ g s k w h hm (by omega)
  ·have e:Vi.zbC s n=I:=ztM hn;unfold Vi.zcG Vi.zdh;rw [e,if_neg (by decide),if_neg (by decide),zux,zus];exact zid g s I n w h (by omega)
 ·obtain rfl:=hs rfl
  have e1:Vi.zcG ⟨#[]⟩ n=⟨#[]⟩:=by
   unfold Vi.zcG;split
   ·apply ByteArray.ext;simp
   ·rfl
  have e2:Vi.zdh ⟨#[]⟩ n=⟨#[]⟩:=by
   unfold Vi.zdh;split
   ·apply ByteArray.ext;simp
   ·rfl
  rw [e1,e2,Bool.true_or];exact zid g _ D n w h (.inl rfl)
end
namespace Vi
def nums (s:ByteArray):List Nat:=s.data.toList.map (·.toNat)
theorem zaA (s:ByteArray):(nums s).length=s.size:=by simp [nums]
theorem zg3 (s:ByteArray):∀ x∈nums s,x<256:=by
 intro x hx;obtain ⟨b,_,rfl⟩:=List.mem_map.1 hx;exact b.toNat_lt
theorem zaG (s:ByteArray) (k:Nat):(nums s).getD k 0<256:=by
 rw [zuq];rcases h:(nums s)[k]? with _|x
 ·decide
 ·exact zg3 s x (zuy h)
theorem zcZ (s:ByteArray) (k:Nat) (h:k≤s.size):tlB (s.extract k s.size)=s.extract (k+1) s.size:=by
 unfold tlB;apply ByteArray.ext;have e:min (k+(s.size-k)) s.size=s.size:=by omega
 simp [zuB,Array.extract_extract,e]
theorem za7 (s:ByteArray) (a b:Nat):nums (s.extract a b)=((nums s).drop a).take (b-a):=by
 unfold nums;rw [zuB,zuJ,zuO,List.map_take,List.map_drop]
theorem zsL (s:ByteArray):hdB s=(nums s).getD 0 0:=by
 unfold hdB nums;rw [zuq,zuq,zuM]
 cases s.data.toList[0]?<;>rfl
theorem zfy (s:ByteArray) (k:Nat) (h:k<s.size):hdB (s.extract k s.size)=(nums s).getD k 0:=by
 rw [zsL,za7,zuq,zuP,if_pos (by omega),List.getElem?_drop,Nat.add_zero,zuq]
def zb3 (s:ByteArray):Nat:=zrb (nums s)
def zcd (s:ByteArray):Bool:=okL (nums s)
def za2 (s:ByteArray):ByteArray:=s.extract (zsw (nums s)) s.size
theorem ztH (b:Nat) (h:b<256):bits BinOp.andNot IntKind.u8 (b:Int) 128=((b % 128:Nat):Int):=by
 have h2:bits BinOp.andNot IntKind.u8 (b:Int) 128=((b &&& (255-128):Nat):Int):=u8_andNot_nat b 128 h (by omega);rw [h2]
 congr 1
 exact Nat.and_two_pow_sub_one_eq_mod b 7
theorem zm3 (l:List Nat) (i:Nat) (hi:i<l.length) (h9:i≤9) (hb:i=9→l.getD i 0≤1):val (l.take (i+1)) % 18446744073709551616=val (l.take (i+1)):=by
 refine zuj ?_;rcases zum i 9 with h|h
 ·exact Nat.lt_trans (zdw l (i+1) (by omega)) (by omega)
 ·obtain rfl:i=9:=by omega
  have h1:=zgX l 9 hi;have h2:=zcD l 9;have h3:=hb rfl;have h4:(128:Nat) ^ 9=9223372036854775808:=by decide
  rw [h4] at h1 h2;have h5:l.getD 9 0 % 128≤1:=ztL (Nat.mod_le _ _) h3;omega
theorem zsM (l:List Nat) (k:Nat) (hk:k<l.length) (h9:k≤9) (X:Int) (hX:X=((l.getD k 0 % 128:Nat):Int)) :
 bits BinOp.or q ((val (l.take k) % 18446744073709551616:Nat):Int) (q.wrap (q.wrap X*2 ^ (7*k)))=((val (l.take (k+1)) % 18446744073709551616:Nat):Int):=by
 subst hX;have hc:l.getD k 0 % 128<128:=Nat.mod_lt _ (by omega);have hv:=zcD l k;have hs:=zgX l k hk;have hle:=zdw l k h9;rw [hs];generalize val (l.take k)=V at *;generalize l.getD k 0 % 128=c at *;have hp:(128:Nat) ^ k=2 ^ (7*k):=by rw [Nat.pow_mul]
 rw [hp] at hv ⊢
 have hpq:2 ^ (7*k)*2 ^ (64-7*k)=18446744073709551616:=by
  rw [←Nat.pow_add]
  have:7*k+(64-7*k)=64:=by omega
  rw [this]
 have hq0:0<2 ^ (64-7*k):=Nat.pow_pos (by omega);have hw1:q.wrap ((c:Nat):Int)=((c:Nat):Int):=IntWalk.u64_in _ (by omega)
 have hw2:q.wrap (((c:Nat):Int)*2 ^ (7*k))=((2 ^ (7*k)*(c % 2 ^ (64-7*k)):Nat):Int):=by
  have e:((c:Nat):Int)*2 ^ (7*k)=((2 ^ (7*k)*c:Nat):Int):=by
   rw [Int.natCast_mul,Int.natCast_pow,Int.mul_comm];rfl
  have e2:q.wrap ((2 ^ (7*k)*c:Nat):Int)=((2 ^ (7*k)*c:Nat):Int) % 18446744073709551616:=by
   rw [zt3]
  rw [e,e2]
  have e3:((2 ^ (7*k)*c:Nat):Int) % 18446744073709551616=(((2 ^ (7*k)*c) % 18446744073709551616:Nat):Int):=by
   rw [Int.natCast_emod];rfl
  rw [e3,←hpq,Nat.mul_mod_mul_left]
 rw [hw1,hw2,zuj (Nat.lt_trans hle (by omega))];have hcq:c % 2 ^ (64-7*k)<2 ^ (64-7*k):=Nat.mod_lt _ hq0
 have hlt:V+2 ^ (7*k)*(c % 2 ^ (64-7*k))<18446744073709551616:=by
  rw [←hpq];have h1:2 ^ (7*k)*(c % 2 ^ (64-7*k)+1)≤2 ^ (7*k)*2 ^ (64-7*k):=Nat.mul_le_mul_left _ hcq;rw [Nat.mul_add,Nat.mul_one] at h1;omega
 have hor:=Nat.two_pow_add_eq_or_of_lt hv (c % 2 ^ (64-7*k));have hb:=u64_or_nat V (2 ^ (7*k)*(c % 2 ^ (64-7*k))) (by omega) (by omega);rw [hb,Nat.or_comm,←hor]
 congr 1
 have hdm:2 ^ (7*k)*c=2 ^ (7*k)*(c % 2 ^ (64-7*k))+18446744073709551616*(c / 2 ^ (64-7*k)):=by
  rw [←hpq,Nat.mul_assoc,←Nat.mul_add,Nat.mod_add_div]
 rw [hdm,←Nat.add_assoc,Nat.add_mul_mod_self_left,zuj hlt,Nat.add_comm]
theorem zm4 (s:ByteArray) (k:Nat) (h:∀ j,j<k→128≤(nums s).getD j 0) (hk:k<s.size) (hb:(nums s).getD k 0<128) (h9:k≤9) (hc:(k=0∨(nums s).getD k 0≠0)∧(k=9→(nums s).getD k 0≤1)) :
 zb3 s=val ((nums s).take (k+1)) % 18446744073709551616∧zcd s=D∧za2 s=s.extract (k+1) s.size:=by
 have hl:=zaA s;have ho:okL (nums s)=D:=by rw [zh0 _ k h (by omega) hb h9];exact ztN hc
 have hv:=ziO _ k h (by omega) hb ho;unfold zb3 zcd za2;exact ⟨by rw [hv.1,zm3 _ k (by omega) h9 hc.2],ho,by rw [hv.2]⟩
theorem zfz (s:ByteArray) (h:okL (nums s)=I):zb3 s=0∧zcd s=I∧za2 s=⟨#[]⟩:=by
 unfold zb3 zcd za2 zrb zsw;rw [h,if_neg (by decide),if_neg (by decide),zaA];refine ⟨rfl,rfl,?_⟩;apply ByteArray.ext
 simp
theorem zm5 (s:ByteArray) (k:Nat) (h:∀ j,j<k→128≤(nums s).getD j 0) (hk:k<s.size) (hb:(nums s).getD k 0<128) (h9:k≤9) (hc:¬ ((k=0∨(nums s).getD k 0≠0)∧(k=9→(nums s).getD k 0≤1))) :
 zb3 s=0∧zcd s=I∧za2 s=⟨#[]⟩:=by
 have hl:=zaA s;refine zfz s ?_;rw [zh0 _ k h (by omega) hb h9];exact ztM hc
end Vi
theorem zjU {k:IntKind} {a b:Int} (h:a=b):z (.int k a)=z (.int k b):=by rw [h]
theorem zg4 (g:Nat) (s:ByteArray) (bad:Bool) (w:r) (h:Rd 327 g s bad w) (hm:s.size≤281474976710656) :
 E A 268 #[rdp g] w fun e w'=>e=z (d q (Vi.zb3 s))∧Rd 327 g (Vi.za2 s) (bad||!Vi.zcd s) w'∧w.grownBy w' (f g):=by
 have hmf:=zmL;have hl:=Vi.zaA s;unfold rdp;go_enter func268,ntmps268;go_wp2
 go_loopw [4,9] (fun n c wr=>∃ k:Nat,k≤10∧k≤s.size∧c=d F k∧n=d q ((Vi.val ((Vi.nums s).take k) % 18446744073709551616:Nat):Int)∧Hid (∀ j,j<k→128≤(Vi.nums s).getD j 0)∧Rd 327 g (s.extract k s.size) bad wr∧w.grownBy wr (f g)) (fun _ c _=>10-(J c).toNat)
 case atStart =>
  refine ⟨0,by omega,by omega,rfl,rfl,fun j hj=>by omega,?_,World.grownBy.refl _ _⟩;have e:s.extract 0 s.size=s:=by apply ByteArray.ext;simp
  rw [e];exact h
 case round =>
  obtain ⟨k,hk,hks,rfl,rfl,HG,hr,hb⟩:=hrel
  by_cases hk10:k<10
  ·rcases zum k s.size with hlt|hge
   ·have hN:=zh (zic g _ bad wr hr (by rw [zue];omega) (by rw [zue];omega));have hbt:=Vi.zaG s k;have HH:=zh (Vi.zfy s k hlt);have HT:=zh (Vi.zcZ s k hks);have HB:=zh (Vi.ztH _ hbt);clear hmf;unfold rdp at *;generalize hv:Vi.val ((Vi.nums s).take k) % 18446744073709551616=v at *;have HV:=zh hv;clear hv
    go_wp2_with fail
    refine hN.out.mono ?_;rintro e w1 ⟨rfl,h1,h2⟩;rw [HT.out] at h1;rw [HH.out];clear HH HT hN;have hb':=hb.trans h2;clear h2 hb hr;have HS:=zh (fun X hX=>Vi.zsM (Vi.nums s) k (by omega) (by omega) X hX);rw [HV.out] at HS
    by_cases hb128:128≤(Vi.nums s).getD k 0
    ·have HG':Hid (∀ j,j<k+1→128≤(Vi.nums s).getD j 0):=fun j hj=>by
      rcases zum j k with h|h
      ·exact HG.out j h
      ·obtain rfl:j=k:=by omega
       exact hb128
     generalize (Vi.nums s).getD k 0=b at *;go_wp2
     go_roundw
     case rel =>
      rw [HS.out _ HB.out];exact ⟨k+1,by omega,by omega,by go_num,rfl,HG',h1,hb'⟩
     case measure=>simp [J];omega
    ·by_cases hc:(k=0∨(Vi.nums s).getD k 0≠0)∧(k=9→(Vi.nums s).getD k 0≤1)
     ·have HY:=zh (Vi.zm4 s k HG.out hlt (by omega) (by omega) hc);have hb1:(Vi.nums s).getD k 0<128:=by omega
      clear HG
      have hfin:∀ e:Int,e=((Vi.val ((Vi.nums s).take (k+1)) % 18446744073709551616:Nat):Int)→(z (d q e)=z (d q (Vi.zb3 s))∧Rd 327 g (Vi.za2 s) (bad||!Vi.zcd s) w1∧w.grownBy w1 (f g)):=by
       intro e he;obtain ⟨y1,y2,y3⟩:=HY.out;rw [y1,y2,y3,he,Bool.not_true,zuH];exact ⟨rfl,h1,hb'⟩
      have HF:=zh hfin;clear hfin HY;generalize (Vi.nums s).getD k 0=b at *;rcases Nat.eq_zero_or_pos k with h0|h0
      ·have hk0:¬ ((0:Int)<k):=by omega
       have hk9:((k:Int)==9)=I:=by rw [beq_eq_false_iff_ne];omega
       have HK:=zh h0;clear h0 hc;go_wp2;go_ret;exact HF.out _ (HS.out _ HB.out)
      ·have hb0:((b:Int)==0)=I:=by rw [beq_eq_false_iff_ne];omega
       have hk0:((0:Int)<k):=by omega
       rcases zum k 9 with h9|h9
       ·have hk9:((k:Int)==9)=I:=by rw [beq_eq_false_iff_ne];omega
        clear hc;go_wp2;go_ret;exact HF.out _ (HS.out _ HB.out)
       ·have hk9:((k:Int)==9)=D:=by rw [beq_iff_eq];omega
        have hb2:(b:Int)≤1:=by have:=hc.2 (by omega);omega
        clear hc;go_wp2;go_ret;exact HF.out _ (HS.out _ HB.out)
     ·have HY:=zh (Vi.zm5 s k HG.out hlt (by omega) (by omega) hc);have hb1:(Vi.nums s).getD k 0<128:=by omega
      clear HG
      have hfin:∀ w',Rd 327 g ⟨#[]⟩ D w'→w1.grownBy w' (f g)→((0:Int)=(Vi.zb3 s:Int)∧Rd 327 g (Vi.za2 s) (bad||!Vi.zcd s) w'∧w.grownBy w' (f g)):=by
       intro w' h1' h2';obtain ⟨y1,y2,y3⟩:=HY.out;rw [y1,y2,y3,zux,zus];exact ⟨rfl,h1',hb'.trans h2'⟩
      have HF:=zh hfin;clear hfin HY;generalize (Vi.nums s).getD k 0=b at *;have hk0:((0:Int)<k):=by omega
      by_cases hb0:b=0
      ·have hb0':((b:Int)==0)=D:=by rw [beq_iff_eq];omega
       have HB0:=zh hb0;clear hb0 hc
       go_wp2_with fail
       refine (zcF g _ bad _ h1).mono ?_;rintro e w2 ⟨rfl,h3,h4⟩;go_wp2;go_ret;exact ⟨zjU (HF.out w2 h3 h4).1,(HF.out w2 h3 h4).2⟩
      ·have hb0':((b:Int)==0)=I:=by rw [beq_eq_false_iff_ne];omega
       have hk9:((k:Int)==9)=D:=by rw [beq_iff_eq];omega
       have hb2:(1:Int)<b:=by omega
       clear hb0 hc
       go_wp2_with fail
       refine (zcF g _ bad _ h1).mono ?_;rintro e w2 ⟨rfl,h3,h4⟩;go_wp2;go_ret;exact ⟨zjU (HF.out w2 h3 h4).1,(HF.out w2 h3 h4).2⟩
   ·have hkk:k=s.size:=by omega
    have he:s.extract k s.size=⟨#[]⟩:=by
     apply ByteArray.ext;rw [hkk];simp
    rw [he] at hr;have hN:=zh (zmZ g bad wr hr);have HY:=zh (Vi.zfz s (Vi.zjI _ k HG.out (.inr (by omega))))
    have hfin:∀ w',Rd 327 g ⟨#[]⟩ D w'→wr.grownBy w' (f g)→((0:Int)=(Vi.zb3 s:Int)∧Rd 327 g (Vi.za2 s) (bad||!Vi.zcd s) w'∧w.grownBy w' (f g)):=by
     intro w' h1' h2';obtain ⟨y1,y2,y3⟩:=HY.out;rw [y1,y2,y3,zux,zus];exact ⟨rfl,h1',hb.trans h2'⟩
    have HF:=zh hfin;clear hfin HY HG hmf hr hb he;unfold rdp at *;have HZ:Hid (k=0→Vi.val ((Vi.nums s).take k) % 18446744073709551616=0):=by rintro rfl;simp [Vi.val]
    generalize Vi.val ((Vi.nums s).take k) % 18446744073709551616=v at *;have HKK:=zh hkk;clear hkk
    go_wp2_with fail
    refine hN.out.mono ?_;rintro e w1 ⟨rfl,h1,h2⟩;rcases Nat.eq_zero_or_pos k with h0|h0
    ·have hk0:¬ ((0:Int)<k):=by omega
     have hk9:((k:Int)==9)=I:=by rw [beq_eq_false_iff_ne];omega
     have HK:=zh h0;clear h0;go_wp2;go_ret;have hz0:=HK.out;have hv0:=HZ.out hz0
     have e0:bits BinOp.or q ((v:Nat):Int) (q.wrap (q.wrap (bits BinOp.andNot IntKind.u8 0 128)*2 ^ (7*k)))=0:=by
      rw [hv0,hz0];decide
     exact ⟨zjU (e0.trans (HF.out w1 h1 h2).1),(HF.out w1 h1 h2).2⟩
    ·have hk0:((0:Int)<k):=by omega
     go_wp2_with fail
     refine (zcF g _ D _ h1).mono ?_;rintro e w2 ⟨rfl,h3,h4⟩;go_wp2;go_ret;exact ⟨zjU (HF.out w2 h3 (h2.trans h4)).1,(HF.out w2 h3 (h2.trans h4)).2⟩
  ·have hkk:k=10:=by omega
   have HY:=zh (Vi.zfz s (Vi.zjI _ k HG.out (.inl hkk)));clear HG hmf;generalize Vi.val ((Vi.nums s).take k) % 18446744073709551616=v at *;have HKK:=zh hkk;clear hkk;unfold rdp at *
   go_wp2_with fail
   refine (zcF g _ bad _ hr).mono ?_;rintro e w2 ⟨rfl,h3,h4⟩;go_wp2;go_ret;obtain ⟨y1,y2,y3⟩:=HY.out;rw [y1,y2,y3,zux,zus];exact ⟨rfl,h3,hb.trans h4⟩
namespace Vi
theorem zrF (l:List Nat):zrb l<18446744073709551616:=by
 unfold zrb
 split
 ·rename_i ho
  have h:cnt l≤9∧cnt l<l.length∧(cnt l=0∨l.getD (cnt l) 0≠0)∧(cnt l=9→l.getD 9 0≤1):=of_decide_eq_true ho;have e:=zm3 l (cnt l) h.2.1 h.1 (fun h9=>by rw [h9];exact h.2.2.2 h9);rw [←e];exact Nat.mod_lt _ (by omega)
 ·omega
theorem zm2 (s:ByteArray):zb3 s<18446744073709551616:=zrF _
theorem zbz (s:ByteArray):(za2 s).size≤s.size:=by unfold za2;rw [zue];omega
theorem zdj {a b:ByteArray} (h:nums a=nums b):a=b:=by
 have hm:∀ l m:List UInt8,l.map (·.toNat)=m.map (·.toNat)→l=m:=by
  intro l;induction l with
  | nil=>intro m h;cases m with|nil=>rfl|cons _ _=>simp at h
  | cons x l ih =>
    intro m h
    cases m with
    | nil=>simp at h
    | cons y m =>
      rw [List.map_cons,List.map_cons,List.cons.injEq] at h;rw [ih m h.2,UInt8.toNat_inj.1 h.1]
 have:=hm _ _ h
 exact ByteArray.ext (Array.ext' this)
theorem zeU (l:List Nat) (hl:∀ x∈l,x<256):nums (str l)=l:=by
 unfold nums str;rw [strOfNums_data,List.map_map,List.map_map]
 conv=>rhs;rw [←List.map_id l]
 refine List.map_congr_left fun x hx=>?_
 have:=hl x hx
 simp
 omega
theorem zjT (a b:ByteArray):(a.toList==b.toList)=decide (nums a=nums b):=by
 rw [zur,zur]
 by_cases h:nums a=nums b
 ·rw [ztN h,zdj h];simp
 ·rw [ztM h,beq_eq_false_iff_ne];intro e;exact h (by unfold nums;rw [e])
theorem zsK (l:List Nat) (k:Nat) (hk:k<l.length) (h9:k≤9) (Y:Int) (hY:Y=((l.getD k 0 % 128:Nat):Int)) :
 bits BinOp.or q ((val (l.take k) % 18446744073709551616:Nat):Int) (q.wrap (Y*2 ^ (7*k)))=((val (l.take (k+1)) % 18446744073709551616:Nat):Int):=by
 have h:=zsM l k hk h9 Y hY
 rwa [IntWalk.u64_in Y (by omega)] at h
theorem rtest (s:ByteArray) (i:Nat) (h:∀ j,j<i→128≤(nums s).getD j 0) (hi:i<s.size) (hb:(nums s).getD i 0<128) (h9:i≤9) :
 ((zaE (val ((nums s).take (i+1)) % 18446744073709551616)).toList==(s.extract 0 (i+1)).toList)=okL (nums s):=by
 have hl:=zaA s;rw [zjT,za7,List.drop_zero,Nat.sub_zero];unfold zaE;rw [zeU _ (zqe _)];have ht:=zjJ (nums s) i (zg3 s) h (by omega) hb h9
 cases ho:okL (nums s)
 ·rw [decide_eq_false_iff_not,ht,ho];decide
 ·rw [decide_eq_true_iff,ht,ho]
end Vi
theorem zrE (n:Nat) (g:Nat) (s:ByteArray) (w:r) (hn:n<18446744073709551616) (hc:w.cell? ⟨g,0,G⟩=f (C s)) :
 E A 171 #[d q n] w fun e w'=>e=z (C (Vi.zaE n))∧H w.heap.size w w'∧w'.cell? ⟨g,0,G⟩=f (C s) :=
 (zbH n w hn).mono fun _ _ ⟨h1,h2⟩=>⟨h1,h2,(h2.cell (zuV w _ hc)).trans hc⟩
theorem zeV (g:Nat) (s:ByteArray) (bad:Bool) (w:r) (h:Rd 261 g s bad w) (hm:s.size≤281474976710656) :
 E A 193 #[rdp g] w fun e w'=>e=z (d q (Vi.zb3 s))∧Rd 261 g (Vi.za2 s) (bad||!Vi.zcd s) w'∧w.grownBy w' (f g):=by
 have hl:=Vi.zaA s;have c0:=h.cell0;have f0:=h.frozen 0;have hF:=fun w' (hb:H w.heap.size w w')=>zfx g s bad w' (h.below hb h.lt);have HF:=zh hF;clear hF;unfold rdp at *;go_enter func193,ntmps193;go_wp2
 go_loop [3,4] (fun n c=>∃ k:Nat,k≤10∧k≤s.size∧c=d F k∧n=d q ((Vi.val ((Vi.nums s).take k) % 18446744073709551616:Nat):Int)∧Hid (∀ j,j<k→128≤(Vi.nums s).getD j 0)) (fun _ c=>10-(J c).toNat)
 case atStart=>exact ⟨0,by omega,by omega,rfl,rfl,fun j hj=>by omega⟩
 case round =>
  obtain ⟨k,hk,hks,rfl,rfl,HG⟩:=hrel
  by_cases hk10:k<10
  ·rcases zum k s.size with hlt|hge
   ·have hbt:=Vi.zaG s k
    have he:s[k].toNat=(Vi.nums s).getD k 0:=by
     unfold Vi.nums;rw [zuq,zuM,zt2 (by simpa using hlt)];rfl
    have HS:=zh (fun Y hY=>Vi.zsK (Vi.nums s) k (by omega) (by omega) Y hY);generalize hv:Vi.val ((Vi.nums s).take k) % 18446744073709551616=v at *;have HV:=zh hv;clear hv
    by_cases hb128:128≤(Vi.nums s).getD k 0
    ·have HG':Hid (∀ j,j<k+1→128≤(Vi.nums s).getD j 0):=fun j hj=>by
      rcases zum j k with h|h
      ·exact HG.out j h
      ·obtain rfl:j=k:=by omega
       exact hb128
     generalize (Vi.nums s).getD k 0=b at *;have hW:q.wrap (b:Int)=(b:Int):=IntWalk.u64_in _ (by omega);have hY:(b:Int) % 128=((b % 128:Nat):Int):=by omega
     have HY:=zh hY;clear hY;have hb1:(128:Int)≤b:=by omega
     go_wp2
     go_round
     case rel =>
      rw [HS.out _ HY.out];exact ⟨k+1,by omega,by omega,by go_num,rfl,HG'⟩
     case measure=>simp [J];omega
    ·have HR:=zh (Vi.rtest s k HG.out hlt (by omega) (by omega))
     have HYes:Vi.okL (Vi.nums s)=D→Vi.zb3 s=Vi.val ((Vi.nums s).take (k+1)) % 18446744073709551616∧Vi.zcd s=D∧Vi.za2 s=s.extract (k+1) s.size:=by
      intro ho;rw [Vi.zh0 _ k HG.out (by omega) (by omega) (by omega),decide_eq_true_iff] at ho;exact Vi.zm4 s k HG.out hlt (by omega) (by omega) ho
     have HNo:=Vi.zfz s;have HV2:Hid (Vi.val ((Vi.nums s).take (k+1)) % 18446744073709551616<18446744073709551616):=Nat.mod_lt _ (by omega);generalize Vi.val ((Vi.nums s).take (k+1)) % 18446744073709551616=v2 at *;generalize (Vi.nums s).getD k 0=b at *;have hW:q.wrap (b:Int)=(b:Int):=IntWalk.u64_in _ (by omega);have hY:(b:Int) % 128=((b % 128:Nat):Int):=by omega
     have HY:=zh hY;clear hY;have hb1:(b:Int)<128:=by omega
     go_wp2;rw [HS.out _ HY.out];have q1:F.wrap ((k:Int)+1)=(k:Int)+1:=IntWalk.i64_in _ (by omega);have q2:0≤(k:Int)+1:=by omega
     have q3:((k:Int)+1).toNat=k+1:=by omega
     have q4:(k:Int)+1≤s.size:=by omega
     have hB:H w.heap.size w w.drew:=(K _ _).drew;have HYes':=zh HYes;have HNo':=zh HNo;clear HS HY HV HG hW he HYes HNo
     go_region_held3 (fun w'=>w'.cell? ⟨g,0,G⟩=f (C s)) ((first|assumption|go_keep)) (first
      | (go_at_call 171;((with_reducible refine (zrE _ g s _ HV2.out ?_).mono ?_);(first|assumption|(simp [*];done));rintro e w4 ⟨rfl,hb4,hc4⟩;replace hB:=hB.trans (hb4.mono hB.size);clear hb4)))
     rw [HR.out];have f4:w4.frozen? ⟨g,0,G⟩=I:=(hB.frozen (p:=⟨g,0,G⟩) h.lt).trans f0
     cases ho:Vi.okL (Vi.nums s)
     ·have HN:=zh (HNo'.out ho);clear ho HR q1 q2 q3 q4 f0 c0
      go_wp2_with fail
      refine (HF.out w4 hB).mono ?_;rintro e w5 ⟨rfl,h3,h4⟩;go_wp2;go_ret;obtain ⟨y1,y2,y3⟩:=HN.out;rw [y1,y2,y3,zux,zus];exact ⟨rfl,h3,(zbb hB _).trans h4⟩
     ·have HN:=zh (HYes'.out ho);clear ho HR q1 q2 q3 q4 f0 c0;have hk1:(k:Int)+1≤s.size:=by omega
      go_wp2;go_ret;obtain ⟨y1,y2,y3⟩:=HN.out;rw [y1,y2,y3,Bool.not_true,zuH];exact ⟨rfl,(h.below hB h.lt).set0 _,(zbb hB _).trans (za6 _)⟩
   ·have hkk:k=s.size:=by omega
    have HY:=zh (Vi.zfz s (Vi.zjI _ k HG.out (.inr (by omega))));clear HG;generalize Vi.val ((Vi.nums s).take k) % 18446744073709551616=v at *;have hks':decide (k<s.size)=I:=ztM (by omega);have HKK:=zh hkk;clear hkk
    go_wp2_with fail
    refine (HF.out w (K _ _)).mono ?_;rintro e w5 ⟨rfl,h3,h4⟩;go_wp2;go_ret;obtain ⟨y1,y2,y3⟩:=HY.out;rw [y1,y2,y3,zux,zus];exact ⟨rfl,h3,h4⟩
  ·have hkk:k=10:=by omega
   have HY:=zh (Vi.zfz s (Vi.zjI _ k HG.out (.inl hkk)));clear HG;generalize Vi.val ((Vi.nums s).take k) % 18446744073709551616=v at *;have HKK:=zh hkk;clear hkk
   go_wp2_with fail
   refine (HF.out w (K _ _)).mono ?_;rintro e w5 ⟨rfl,h3,h4⟩;go_wp2;go_ret;obtain ⟨y1,y2,y3⟩:=HY.out;rw [y1,y2,y3,zux,zus];exact ⟨rfl,h3,h4⟩
theorem Vi.sane_var (s:ByteArray) (bad:Bool) (h:Vi.Sane s bad):Vi.Sane (Vi.za2 s) (bad||!Vi.zcd s):=by
 intro hb
 cases ho:Vi.zcd s
 ·exact (Vi.zfz s ho).2.2
 ·rw [ho] at hb
  have:=h (by simpa using hb)
  subst this
  revert ho;decide
namespace Vi
theorem zbq (a b:ByteArray):nums (a++b)=nums a++nums b:=by
 unfold nums;rw [zup,zuC,List.map_append]
theorem zaK (a b c:ByteArray):a++b++c=a++(b++c):=by
 apply ByteArray.ext;simp [zup,Array.append_assoc]
theorem zcY (a b:ByteArray):(a++b).extract 0 a.size=a:=by
 apply zdj;rw [za7,zbq,List.drop_zero,Nat.sub_zero,List.take_left' (zaA a)]
theorem zcH (a b:ByteArray):(a++b).extract a.size (a++b).size=b:=by
 apply zdj;rw [za7,zbq,List.drop_left' (zaA a),zt9];rw [zaA,ztS];omega
def fx (a:Nat):Nat→List Nat
 | 0=>[]
 | k+1=>(a / 256 ^ k % 256) :: fx a k
def fxB (a:Nat) (k:Int):ByteArray:=if 0≤k∧k≤8 then str (fx a k.toNat) else ⟨#[]⟩
theorem zd2 (a:Nat):∀ k,(fx a k).length=k
 | 0=>rfl
 | k+1=>by rw [fx,zud,zd2 a k]
def zf1 (a s k:Nat):List Nat:=List.replicate (s-k) 0++fx a k
theorem zh8 (a s:Nat):zf1 a s 0=List.replicate s 0:=by simp [zf1,fx]
theorem zh9 (a s:Nat):zf1 a s s=fx a s:=by simp [zf1]
theorem zjR (a k j:Nat):(zf1 a (k+1+j) k).set j (a / 256 ^ k % 256)=zf1 a (k+1+j) (k+1):=by
 unfold zf1;have e1:k+1+j-k=j+1:=by omega
 have e2:k+1+j-(k+1)=j:=by omega
 rw [e1,e2,List.replicate_succ',zuc,List.set_append_right _ _ (by simp)];simp [fx]
theorem zia (l:List Nat) (j x:Nat):(cells l).set j (d .u8 (x:Int))=cells (l.set j x):=by
 unfold cells;rw [List.map_set]
theorem zmU (a k:Nat):a / 256 ^ k / 256=a / 256 ^ (k+1):=by rw [Nat.div_div_eq_div_mul,Nat.pow_succ]
end Vi
theorem zpz (a:Nat) (s:Int) (w:r) (h:s<0∨8<s) :
 E A 212 #[d q a,d F s] w fun e w'=>e=z (C (Vi.fxB a s))∧H w.heap.size w w':=by
 have hz:Hid (Vi.fxB a s=⟨#[]⟩):=by show _=_;unfold Vi.fxB;rw [if_neg (by omega)]
 rcases h with h|h
 ·go_enter func212,ntmps212;go_wp2;go_ret;exact ⟨by rw [hz.out];rfl,K _ _⟩
 ·have h0:¬ s<0:=by omega
  go_enter func212,ntmps212;go_wp2;go_ret;exact ⟨by rw [hz.out];rfl,K _ _⟩
theorem zmV (a s:Nat) (w:r) (hs:s≤8) :
 E A 212 #[d q a,d F s] w fun e w'=>e=z (C (Vi.fxB a s))∧H w.heap.size w w':=by
 obtain ⟨i0,hi,hz0,hz1,hz2⟩:=info_parts info5;go_enter func212,ntmps212
 go_wp2_with (at_make;refine wpList_make_full _ rfl _ _ 78 rfl w.heap.size 5 i0 (d .u8 0) 1 underlying78 hi hz0 hz1 F F _ _ s rfl rfl rfl rfl (by rw [hz2];omega) (by unfold maxLen;omega) (ztI _) ?_;intro w0 hown0 hgrow0)
 have hr0:w0.ownsRow w.heap.size 5 1 (Value.slice (f ⟨w.heap.size,0,G⟩) s s) s (Vi.cells (Vi.zf1 a s 0)):=by
  have e:(madeCells (d IntKind.u8 0).cells (s*1)).toList=Vi.cells (Vi.zf1 a s 0):=by
   rw [Vi.zh8,Nat.mul_one];show (madeCells #[d IntKind.u8 0] s).toList=_;rw [toList_madeCells_one];simp [Vi.cells]
  rw [←e];exact hown0
 have hb0:H w.heap.size w w0:=(K _ _).grown hgrow0 (ztI _) (by simp);clear hown0 hgrow0
 go_loopw [0,16] (fun m c wr=>∃ k:Nat,k≤s∧m=d q ((a / 256 ^ k:Nat):Int)∧c=d F k∧wr.ownsRow w.heap.size 5 1 (Value.slice (f ⟨w.heap.size,0,G⟩) s s) s (Vi.cells (Vi.zf1 a s k))∧H w.heap.size w wr) (fun _ c _=>s-(J c).toNat)
 case atStart=>exact ⟨0,by omega,by simp,rfl,hr0,hb0⟩
 case round =>
  obtain ⟨k,hk,rfl,rfl,hr,hb⟩:=hrel;have HD:=zh (Vi.zmU a k);generalize hm:a / 256 ^ k=m at *;have HM:=zh hm;clear hm
  by_cases hlt:k<s
  ·obtain ⟨j,hj⟩:∃ j,j=s-1-k:=⟨_,rfl⟩;have hji:(s:Int)-1-k=(j:Int):=by omega
   have hc:wr.cell? ⟨w.heap.size,j,G⟩=f (d .u8 0):=by
    rw [hr.cellAt j (by omega)]
    have e:(Vi.cells (Vi.zf1 a s k))[j]?=f (d .u8 0):=by
     unfold Vi.cells Vi.zf1;rw [zuM,zuR (by rw [zuu];omega),List.getElem?_replicate,if_pos (by omega)];rfl
    exact e
   have hf:=hr.frozenAt j;have HJ:=zh hj;clear hj;go_wp2
   go_roundw
   case rel =>
    have hst:=hr.stored j (d .u8 ((m % 256:Nat):Int));have es:s=k+1+j:=by have:=HJ.out;omega
    refine ⟨k+1,by omega,by rw [←HD.out,Int.natCast_ediv];rfl,by go_num,?_,hb.setCell (ztI _) _⟩
    have e:Vi.cells (Vi.zf1 a s (k+1))=(Vi.cells (Vi.zf1 a s k)).set j (d .u8 ((m % 256:Nat):Int)):=by
     rw [Vi.zia,es,←Vi.zjR,HM.out]
    rw [e];exact hst.1
   case measure=>simp [J];omega
  ·have hk':k=s:=by omega
   subst hk';have hcv:=zdg (by rw [Vi.zh9] at hr;exact hr);have HS:Hid (Vi.fxB a k=Vi.str (Vi.fx a k)):=by show _=_;unfold Vi.fxB;rw [if_pos (by omega),ztV]
   go_wp2;go_ret;exact ⟨by rw [HS.out];rfl,hb⟩
theorem zbm (a:Nat) (s:Int) (w:r) :
 E A 212 #[d q a,d F s] w fun e w'=>e=z (C (Vi.fxB a s))∧H w.heap.size w w':=by
 by_cases h:0≤s∧s≤8
 ·obtain ⟨k,rfl⟩:=ztW h.1;exact zmV a k w (by omega)
 ·exact zpz a s w (by omega)
theorem zmW (a:Nat) (s:Int) (w:r) (h:s<0∨8<s) :
 E A 172 #[d q a,d F s] w fun e w'=>e=z (C (Vi.fxB a s))∧H w.heap.size w w':=by
 have hz:Hid (Vi.fxB a s=⟨#[]⟩):=by show _=_;unfold Vi.fxB;rw [if_neg (by omega)]
 rcases h with h|h
 ·go_enter func172,ntmps172;go_wp2;go_ret;exact ⟨by rw [hz.out];rfl,K _ _⟩
 ·have h0:¬ s<0:=by omega
  go_enter func172,ntmps172;go_wp2;go_ret;exact ⟨by rw [hz.out];rfl,K _ _⟩
theorem zkN (a s:Nat) (w:r) (ha:a<18446744073709551616) (hs:s≤8) :
 E A 172 #[d q a,d F s] w fun e w'=>e=z (C (Vi.fxB a s))∧H w.heap.size w w':=by
 obtain ⟨i0,hi,hz0,hz1,hz2⟩:=info_parts info5;have HA:=zh ha;clear ha;go_enter func172,ntmps172
 go_wp2_with (at_make;refine wpList_make_full _ rfl _ _ 78 rfl w.heap.size 5 i0 (d .u8 0) 1 underlying78 hi hz0 hz1 F F _ _ s rfl rfl rfl rfl (by rw [hz2];omega) (by unfold maxLen;omega) (ztI _) ?_;intro w0 hown0 hgrow0)
 have hr0:w0.ownsRow w.heap.size 5 1 (Value.slice (f ⟨w.heap.size,0,G⟩) s s) s (Vi.cells (Vi.zf1 a s 0)):=by
  have e:(madeCells (d IntKind.u8 0).cells (s*1)).toList=Vi.cells (Vi.zf1 a s 0):=by
   rw [Vi.zh8,Nat.mul_one];show (madeCells #[d IntKind.u8 0] s).toList=_;rw [toList_madeCells_one];simp [Vi.cells]
  rw [←e];exact hown0
 have hb0:H w.heap.size w w0:=(K _ _).grown hgrow0 (ztI _) (by simp);clear hown0 hgrow0
 go_loopw [0,6] (fun m c wr=>∃ k:Nat,k≤s∧m=d q ((a / 256 ^ k:Nat):Int)∧c=d F ((s:Int)-1-k)∧wr.ownsRow w.heap.size 5 1 (Value.slice (f ⟨w.heap.size,0,G⟩) s s) s (Vi.cells (Vi.zf1 a s k))∧H w.heap.size w wr) (fun _ c _=>(J c+1).toNat)
 case atStart=>exact ⟨0,by omega,by simp,by simp,hr0,hb0⟩
 case round =>
  obtain ⟨k,hk,rfl,rfl,hr,hb⟩:=hrel;have HD:=zh (Vi.zmU a k);have hmb:a / 256 ^ k≤a:=Nat.div_le_self _ _;generalize hm:a / 256 ^ k=m at *;have HM:=zh hm;clear hm;have hmi:(m:Int)≤18446744073709551615:=by have:=HA.out;omega
  clear hmb
  by_cases hlt:k<s
  ·obtain ⟨j,hj⟩:∃ j,j=s-1-k:=⟨_,rfl⟩;have hji:(s:Int)-1-k=(j:Int):=by omega
   have hjs:(j:Int)<s:=by omega
   have hj8:(j:Int)≤7:=by omega
   have hc:wr.cell? ⟨w.heap.size,j,G⟩=f (d .u8 0):=by
    rw [hr.cellAt j (by omega)]
    have e:(Vi.cells (Vi.zf1 a s k))[j]?=f (d .u8 0):=by
     unfold Vi.cells Vi.zf1;rw [zuM,zuR (by rw [zuu];omega),List.getElem?_replicate,if_pos (by omega)];rfl
    exact e
   have hf:=hr.frozenAt j;have HJ:=zh hj;clear hj;rw [hji];have HI:=zh hji;clear hji;go_wp2
   go_roundw
   case rel =>
    have hst:=hr.stored j (d .u8 ((m % 256:Nat):Int));have es:s=k+1+j:=by have:=HJ.out;omega
    refine ⟨k+1,by omega,by rw [←HD.out,Int.natCast_ediv];rfl,by have h:=HI.out;congr 1;omega,?_,hb.setCell (ztI _) _⟩
    have e:Vi.cells (Vi.zf1 a s (k+1))=(Vi.cells (Vi.zf1 a s k)).set j (d .u8 ((m % 256:Nat):Int)):=by
     rw [Vi.zia,es,←Vi.zjR,HM.out]
    rw [e];exact hst.1
   case measure=>(simp [J];try omega)
  ·have hk':k=s:=by omega
   subst hk';have hcv:=zdg (by rw [Vi.zh9] at hr;exact hr);have HS:Hid (Vi.fxB a k=Vi.str (Vi.fx a k)):=by show _=_;unfold Vi.fxB;rw [if_pos (by omega),ztV]
   have hn1:(k:Int)-1-k<0:=by omega
   go_wp2;go_ret;exact ⟨by rw [HS.out];rfl,hb⟩
theorem zaO (a:Nat) (s:Int) (w:r) (ha:a<18446744073709551616) :
 E A 172 #[d q a,d F s] w fun e w'=>e=z (C (Vi.fxB a s))∧H w.heap.size w w':=by
 by_cases h:0≤s∧s≤8
 ·obtain ⟨k,rfl⟩:=ztW h.1;exact zkN a k w ha (by omega)
 ·exact zmW a s w (by omega)
end Go.Proofs.YtidndekacnmihaaGreat
