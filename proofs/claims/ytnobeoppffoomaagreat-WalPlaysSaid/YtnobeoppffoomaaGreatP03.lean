/-
  WalPlays: Math VPut.
  Conditions: named in each theorem.
-/
import Derived.Laws.BitsAllLaws
import Derived.RowKit
import Derived.Laws.BytesArg
import Derived.Lib.Hide
import Derived.Test.YtnobeoppffoomaaGreatRows
import Derived.Test.YtnobeoppffoomaaGreatP00
import Derived.WalkKit
import Derived.WalkSpells
import Derived.WalkLawsBesides
import Derived.Maps.AppendAt
import Derived.Deep.AppendLies
import Derived.Test.YtnobeoppffoomaaGreatP0
set_option linter.unusedVariables false
set_option linter.unusedSimpArgs false
set_option maxHeartbeats 8000000
set_option maxRecDepth 100000
namespace Go.Proofs.YtnobeoppffoomaaGreat
open Go.RowKit
namespace Vi
def val:List Nat→Nat
 | []=>0
 | b :: l=>b % 128+128*val l
def put (n:Nat):List Nat:=if n<128 then [n] else (n % 128+128) :: put (n / 128)
termination_by n
decreasing_by omega
theorem put_small (n:Nat) (h:n<128):put n=[n]:=by rw [put,if_pos h]
theorem put_big (n:Nat) (h:128≤n):put n=(n % 128+128) :: put (n / 128):=by rw [put,if_neg (by omega)]
theorem put_ind {p:Nat→Prop} (h0:∀ n,n<128→p n) (h1:∀ n,128≤n→p (n / 128)→p n) (n:Nat):p n:=by
 induction n using Nat.strongRecOn with
 | _ n ih =>
   rcases Nat.lt_or_ge n 128 with h|h
   ·exact h0 n h
   ·exact h1 n h (ih _ (by omega))
theorem put_form (n:Nat):∃ pre b,put n=pre++[b]∧(∀ x∈pre,128≤x∧x<256)∧b<128∧(pre≠[]→b≠0)∧val (put n)=n∧128 ^ pre.length*b≤n:=by
 induction n using put_ind with
 | h0 n h =>
   refine ⟨[],n,by rw [put_small n h];rfl,by simp,h,by simp,?_,by simp⟩
   rw [put_small n h]
   simp only [val];omega
 | h1 n h ih =>
   obtain ⟨pre,b,e,hp,hb,hz,hv,hs⟩:=ih
   refine ⟨(n % 128+128) :: pre,b,by rw [put_big n h,e];rfl,?_,hb,fun _=>?_,?_,?_⟩
   ·intro x hx
    rcases List.mem_cons.1 hx with rfl|hx
    ·omega
    ·exact hp x hx
   ·rcases pre with _|⟨c,pre⟩
    ·intro hb0
     rw [e,hb0] at hv
     simp only [List.nil_append,val] at hv
     omega
    ·exact hz (by simp)
   ·rw [put_big n h]
    simp only [val]
    rw [hv];omega
   ·rw [List.length_cons,Nat.pow_succ]
    have:128 ^ pre.length*128*b=128*(128 ^ pre.length*b):=by rw [Nat.mul_comm _ 128,Nat.mul_assoc]
    omega
theorem val_append:∀ (l m:List Nat),val (l++m)=val l+128 ^ l.length*val m
 | [],m=>by simp [val]
 | b :: l,m=>by
   rw [List.cons_append]
   simp only [val]
   rw [val_append l m,List.length_cons,Nat.pow_succ,Nat.mul_add,Nat.mul_comm _ 128,Nat.mul_assoc]
   omega
theorem val_snoc (l:List Nat) (b:Nat):val (l++[b])=val l+128 ^ l.length*(b % 128):=by
 rw [val_append];simp [val]
theorem val_lt:∀ (l:List Nat),val l<128 ^ l.length
 | []=>by simp [val]
 | b :: l=>by
   have h:=val_lt l
   rw [List.length_cons,Nat.pow_succ]
   simp only [val]
   omega
theorem put_lt (n:Nat):∀ x∈put n,x<256:=by
 obtain ⟨pre,b,e,hp,hb,-⟩:=put_form n
 rw [e]
 intro x hx
 rcases List.mem_append.1 hx with hx|hx
 ·exact (hp x hx).2
 ·rw [List.mem_singleton] at hx;omega
theorem put_length_pos (n:Nat):0<(put n).length:=by
 obtain ⟨pre,b,e,-⟩:=put_form n
 rw [e];simp
theorem put_length_le (n k:Nat) (h:n<128 ^ (k+1)):(put n).length≤k+1:=by
 induction k generalizing n with
 | zero=>rw [put_small n (by simpa using h)];simp
 | succ k ih =>
   rcases Nat.lt_or_ge n 128 with h1|h1
   ·rw [put_small n h1];simp
   ·have h2:=ih (n / 128) (by rw [Nat.div_lt_iff_lt_mul (by omega)];rw [Nat.pow_succ] at h;exact h)
    rw [put_big n h1,List.length_cons];omega
theorem put_val:∀ (pre:List Nat) (b:Nat),(∀ x∈pre,128≤x∧x<256)→b<128→(pre≠[]→b≠0)→put (val (pre++[b]))=pre++[b]
 | [],b,_,hb,_=>by
   simp only [List.nil_append,val]
   rw [put_small _ (by omega)]
   congr 1;omega
 | x :: pre,b,hp,hb,hz=>by
   have hx:=hp x (by simp)
   have h0:=hz (by simp)
   have ih:=put_val pre b (fun y hy=>hp y (by simp [hy])) hb (fun _=>h0)
   have hv:0<val (pre++[b]):=by
    rw [val_snoc]
    have:0<128 ^ pre.length*(b % 128):=Nat.mul_pos (Nat.pow_pos (by omega)) (by omega)
    omega
   rw [List.cons_append]
   simp only [val]
   rw [put_big _ (by omega)]
   have e1:(x % 128+128*val (pre++[b])) % 128+128=x:=by omega
   have e2:(x % 128+128*val (pre++[b])) / 128=val (pre++[b]):=by omega
   rw [e1,e2,ih]
def cnt (l:List Nat):Nat:=(l.takeWhile fun b=>decide (128≤b)).length
def okL (l:List Nat):Bool:=decide (cnt l≤9∧cnt l<l.length∧(cnt l=0∨l.getD (cnt l) 0≠0)∧(cnt l=9→l.getD 9 0≤1))
def valL (l:List Nat):Nat:=if okL l=true then val (l.take (cnt l+1)) else 0
def lenL (l:List Nat):Nat:=if okL l=true then cnt l+1 else l.length
theorem cnt_eq:∀ (l:List Nat) (i:Nat),(∀ j,j<i→128≤l.getD j 0)→i<l.length→l.getD i 0<128→cnt l=i
 | [],i,_,hi,_=>by simp at hi
 | b :: l,0,_,_,hb=>by
   have:b<128:=by simpa using hb
   unfold cnt
   rw [List.takeWhile_cons,if_neg (by simpa using this)];rfl
 | b :: l,i+1,h,hi,hb=>by
   have h0:128≤b:=by simpa using h 0 (by omega)
   have ih:=cnt_eq l i (fun j hj=>by simpa using h (j+1) (by omega)) (by simpa using hi) (by simpa using hb)
   unfold cnt at ih ⊢
   rw [List.takeWhile_cons,if_pos (by simpa using h0),List.length_cons,ih]
theorem cnt_ge:∀ (l:List Nat) (i:Nat),(∀ j,j<i→128≤l.getD j 0)→i≤cnt l
 | _,0,_=>Nat.zero_le _
 | [],i+1,h=>by have:=h 0 (by omega);simp at this
 | b :: l,i+1,h=>by
   have h0:128≤b:=by simpa using h 0 (by omega)
   have ih:=cnt_ge l i (fun j hj=>by simpa using h (j+1) (by omega))
   unfold cnt at ih ⊢
   rw [List.takeWhile_cons,if_pos (by simpa using h0),List.length_cons]
   omega
theorem cnt_mem:∀ (l:List Nat),∀ x∈l.take (cnt l),128≤x
 | []=>by simp
 | b :: l=>by
   unfold cnt
   rw [List.takeWhile_cons]
   split
   ·rename_i hb
    rw [List.length_cons,List.take_succ_cons]
    intro x hx
    rcases List.mem_cons.1 hx with rfl|hx
    ·simpa using hb
    ·exact cnt_mem l x hx
   ·simp
theorem okL_no (l:List Nat) (i:Nat) (h:∀ j,j<i→128≤l.getD j 0) (hi:i=10∨l.length≤i):okL l=false:=by
 have hc:=cnt_ge l i h
 unfold okL
 rw [decide_eq_false_iff_not]
 rintro ⟨h1,h2,-⟩
 omega
theorem okL_at (l:List Nat) (i:Nat) (h:∀ j,j<i→128≤l.getD j 0) (hi:i<l.length) (hb:l.getD i 0<128) (h9:i≤9) :
 okL l=decide ((i=0∨l.getD i 0≠0)∧(i=9→l.getD i 0≤1)):=by
 have hc:=cnt_eq l i h hi hb
 unfold okL
 rw [hc,decide_eq_decide]
 constructor
 ·rintro ⟨_,_,h3,h4⟩
  exact ⟨h3,fun e=>by subst e;exact h4 rfl⟩
 ·rintro ⟨h3,h4⟩
  exact ⟨h9,hi,h3,fun e=>by subst e;exact h4 rfl⟩
theorem valL_at (l:List Nat) (i:Nat) (h:∀ j,j<i→128≤l.getD j 0) (hi:i<l.length) (hb:l.getD i 0<128) (ho:okL l=true) :
 valL l=val (l.take (i+1))∧lenL l=i+1:=by
 have hc:=cnt_eq l i h hi hb
 unfold valL lenL
 rw [if_pos ho,if_pos ho,hc];exact ⟨rfl,rfl⟩
theorem getD_take (l:List Nat) (i:Nat) (hi:i<l.length):l.take (i+1)=l.take i++[l.getD i 0]:=by
 rw [List.take_succ_eq_append_getElem hi,List.getD_eq_getElem?_getD,List.getElem?_eq_getElem hi];rfl
theorem val_take (l:List Nat) (i:Nat) (hi:i<l.length):val (l.take (i+1))=val (l.take i)+128 ^ i*(l.getD i 0 % 128):=by
 rw [getD_take l i hi,val_snoc,List.length_take,Nat.min_eq_left (by omega)]
theorem val_take_lt (l:List Nat) (i:Nat):val (l.take i)<128 ^ i:=by
 refine Nat.lt_of_lt_of_le (val_lt _) ?_
 exact Nat.pow_le_pow_right (by omega) (by rw [List.length_take];omega)
theorem val_take_le (l:List Nat) (i:Nat) (h:i≤9):val (l.take i)<9223372036854775808:=by
 refine Nat.lt_of_lt_of_le (val_take_lt l i) ?_
 exact Nat.le_trans (Nat.pow_le_pow_right (by omega) h) (by decide)
theorem put_reads (n:Nat) (hn:n<18446744073709551616) (t:List Nat):okL (put n++t)=true∧valL (put n++t)=n∧lenL (put n++t)=(put n).length:=by
 obtain ⟨pre,b,e,hp,hb,hz,hv,hs⟩:=put_form n
 have hl:(put n).length≤10:=put_length_le n 9 (Nat.lt_trans hn (by decide))
 have hg:∀ j,j<pre.length→128≤(put n++t).getD j 0:=by
  intro j hj
  rw [e,List.append_assoc,List.getD_eq_getElem?_getD,List.getElem?_append_left hj,List.getElem?_eq_getElem hj]
  exact (hp _ (List.getElem_mem hj)).1
 have hg2:(put n++t).getD pre.length 0=b:=by
  rw [e,List.append_assoc,List.getD_eq_getElem?_getD,List.getElem?_append_right (Nat.le_refl _)];simp
 have hlen:(put n).length=pre.length+1:=by rw [e];simp
 have hlt:pre.length<(put n++t).length:=by rw [List.length_append];omega
 have hok:okL (put n++t)=true:=by
  rw [okL_at _ pre.length hg hlt (by omega) (by omega),hg2]
  rw [decide_eq_true_iff]
  refine ⟨?_,fun h9=>?_⟩
  ·rcases pre with _|⟨c,pre⟩
   ·exact .inl rfl
   ·exact .inr (hz (by simp))
  ·rw [h9] at hs
   have:(128:Nat) ^ 9=9223372036854775808:=by decide
   omega
 obtain ⟨h1,h2⟩:=valL_at _ pre.length hg hlt (by omega) hok
 refine ⟨hok,?_,by omega⟩
 rw [h1,←hlen,List.take_left' rfl,hv]
theorem put_test (l:List Nat) (i:Nat) (hl:∀ x∈l,x<256) (h:∀ j,j<i→128≤l.getD j 0) (hi:i<l.length) (hb:l.getD i 0<128) (h9:i≤9) :
 (put (val (l.take (i+1)) % 18446744073709551616)=l.take (i+1))↔okL l=true:=by
 have ht:=getD_take l i hi
 have hpre:∀ x∈l.take i,128≤x∧x<256:=by
  intro x hx
  refine ⟨?_,hl x (List.mem_of_mem_take hx)⟩
  obtain ⟨j,hj,rfl⟩:=List.getElem_of_mem hx
  rw [List.length_take] at hj
  have:=h j (by omega)
  rw [List.getD_eq_getElem?_getD,List.getElem?_eq_getElem (by omega)] at this
  rw [List.getElem_take];exact this
 have hlen:(l.take i).length=i:=by rw [List.length_take];omega
 have hvt:=val_take l i hi
 have hv0:=val_take_lt l i
 rw [okL_at l i h hi hb h9,decide_eq_true_iff]
 generalize l.getD i 0=b at *
 have hbm:b % 128=b:=Nat.mod_eq_of_lt hb
 rw [hbm] at hvt
 constructor
 ·intro hp
  obtain ⟨pre',b',e',hp',hb',hz',hv',hs'⟩:=put_form (val (l.take (i+1)) % 18446744073709551616)
  rw [hp] at e' hv'
  have hvs:val (l.take (i+1))<18446744073709551616:=by rw [hv'];exact Nat.mod_lt _ (by omega)
  obtain ⟨e1,e2⟩:=List.append_inj' (e'.symm.trans ht) rfl
  obtain rfl:b'=b:=by simpa using e2
  constructor
  ·rcases Nat.eq_zero_or_pos i with h0|h0
   ·exact .inl h0
   ·refine .inr (hz' ?_)
    rw [e1]
    intro hn
    rw [hn] at hlen
    simp at hlen;omega
  ·intro e
   subst e
   have:(128:Nat) ^ 9=9223372036854775808:=by decide
   rw [this] at hvt
   omega
 ·rintro ⟨h1,h2⟩
  have hvs:val (l.take (i+1))<18446744073709551616:=by
   rcases Nat.lt_or_ge i 9 with h8|h8
   ·exact Nat.lt_trans (val_take_le l (i+1) (by omega)) (by omega)
   ·obtain rfl:i=9:=by omega
    have hb1:=h2 rfl
    have:(128:Nat) ^ 9=9223372036854775808:=by decide
    rw [this] at hvt hv0
    omega
  rw [Nat.mod_eq_of_lt hvs,ht]
  refine put_val _ b hpre hb (fun hn=>?_)
  rcases h1 with rfl|h1
  ·simp at hn
  ·exact h1
end Vi
end Go.Proofs.YtnobeoppffoomaaGreat
namespace Go.Proofs.YtnobeoppffoomaaGreat
open Go.RowKit
theorem Tryz.info5:(Tryz.prog.info? 5).map (fun i=>(i.zero,i.size,i.bytes))=some (some (.int .u8 0),1,1):=by kernel_rfl
namespace Vi
def cells (l:List Nat):List Value:=l.map fun (x:Nat)=>Value.int .u8 ((x:Nat):Int)
def str (l:List Nat):ByteArray:=strOfNums (l.map fun (x:Nat)=>((x:Nat):Int))
def putB (n:Nat):ByteArray:=str (put n)
theorem cells_length (l:List Nat):(cells l).length=l.length:=by simp [cells]
theorem str_size (l:List Nat):(str l).size=l.length:=by unfold str;rw [strOfNums_size];simp
theorem cells_snoc (l:List Nat) (x:Nat):cells l++[Value.int .u8 (x:Int)]=cells (l++[x]):=by simp [cells]
theorem or128 (m:Nat) (_h:128≤m):bits BinOp.or IntKind.u8 ((m:Int) % 256) 128=((m % 128+128:Nat):Int):=by
 have h1:m % 256<256:=Nat.mod_lt _ (by omega)
 have e1:(m:Int) % 256=((m % 256:Nat):Int):=by omega
 have h2:bits BinOp.or IntKind.u8 ((m % 256:Nat):Int) 128=((m % 256 ||| 128:Nat):Int):=u8_or_nat (m % 256) 128 h1 (by omega)
 rw [e1,h2]
 congr 1
 have h:∀ x:Nat,x<256→x ||| 128=x % 128+128:=by decide +kernel
 rw [h _ h1]
 omega
end Vi
theorem str_of_own {w:World} {base:Nat} {v:Value} {n:Nat} {l:List Nat} (h:w.ownsRow base 5 1 v n (Vi.cells l)):(convert 68 9 v).run Tryz.prog w=.ok (.string (Vi.str l)) w:=by
 have hn:l.length=n:=by have:=h.1;rw [Vi.cells_length] at this;omega
 rcases Nat.eq_zero_or_pos n with h0|h0
 ·subst h0
  have hl:l=[]:=List.eq_nil_of_length_eq_zero (by omega)
  subst hl
  rcases h.2 with ⟨rfl,_⟩|⟨g,cap,cur,rfl,_⟩
  ·exact run_convert_bytes_nil w 68 5 Tryz.underlying68 Tryz.underlying5 0 0 9 Tryz.underlying9
  ·exact run_convert_bytes_arg (P:=Tryz.prog) w 68 5 Tryz.underlying68 Tryz.underlying5 g 0 0 cap [] rfl (by intro i hi;omega) 9 Tryz.underlying9
 ·obtain ⟨g,cap,rfl,_⟩:=h.form h0
  refine run_convert_bytes_arg (P:=Tryz.prog) w 68 5 Tryz.underlying68 Tryz.underlying5 g 0 n cap (l.map fun (x:Nat)=>((x:Nat):Int)) (by simpa using hn) (fun i hi=>?_) 9 Tryz.underlying9
  have hc:=h.cellAt i (by omega)
  rw [Nat.zero_add,hc]
  have hi':i<l.length:=by omega
  simp [Vi.cells,List.getD_eq_getElem?_getD,List.getElem?_eq_getElem hi']
theorem put_any (n:Nat) (w:World) (hn:n<18446744073709551616) :
 Calls Tryz.prog 135 #[.int .u64 n] w fun e w'=>e=.returned (.string (Vi.putB n))∧Below w.heap.size w w':=by
 obtain ⟨i0,hi,hz0,hz1,hz2⟩:=info_parts Tryz.info5
 go_enter Tryz.func135,Tryz.ntmps135
 go_wp2_with (at_make;refine wpList_make_own _ rfl _ _ 68 rfl w.heap.size 5 i0 (.int .u8 0) 1 Tryz.underlying68 hi hz0 hz1 .i64 .i64 _ 10 rfl rfl rfl (by rw [hz2];omega) (by unfold maxLen;omega) (Nat.le_refl _) ?_;intro w0 hown0 hgrow0)
 have HN:=zh hn
 clear hn
 go_loopw [0,3] (fun m v wr=>∃ (k:Nat) (pre:List Nat),m=.int .u64 (k:Int)∧k<18446744073709551616∧Hid (pre++Vi.put k=Vi.put n)∧wr.ownsRow w.heap.size 5 1 v pre.length (Vi.cells pre)∧Below w.heap.size w wr) (fun m _ _=>(Go.RowKit.intOf m).toNat)
 case atStart=>exact ⟨n,[],rfl,HN.out,rfl,hown0,(Below.refl _ _).grown hgrow0 (Nat.le_refl _) (by simp)⟩
 case round =>
  obtain ⟨k,pre,rfl,hk,HP,hown,hb⟩:=hrel
  have hpl:pre.length≤9:=by
   have h1:=Vi.put_length_le n 9 (Nat.lt_trans HN.out (by decide))
   have h2:=Vi.put_length_pos k
   have h3:=congrArg List.length HP.out
   rw [List.length_append] at h3
   omega
  have hsz:=hb.size
  have HK:=zh hk
  clear hk
  by_cases hlt:128≤k
  ·have HO:=zh (Vi.or128 k hlt)
   go_wp2_with (at_builtin;refine wpList_append_own _ rfl _ _ 68 rfl w.heap.size 5 i0 (.int .u8 0) 1 1 Tryz.underlying68 hi hz0 hz1 hz2 rfl (by decide) _ _ _ rfl (hown.alloc _) ⟨wr.heap.size,0,none⟩ 1 1 [.int .u8 _] rfl rfl (cell_one_new _ _ _) (fun x hx=>by simp at hx;subst hx;rfl) (by unfold maxLen;omega) (by omega) (by simp;omega) ?_;intro v' w3 hown' hgrow3 hnil3)
   go_roundw
   case rel =>
    rw [HO.out,Vi.cells_snoc] at hown'
    refine ⟨k / 128,pre++[k % 128+128],by first|rfl|(push_cast;rfl),by have:=HK.out;omega,?_,by rw [List.length_append];exact hown',?_⟩
    ·have h1:=HP.out
     rw [Vi.put_big k hlt] at h1
     rw [List.append_assoc];exact h1
    ·exact (hb.alloc hsz _).grown hgrow3 (by simp;omega) (fun g hg=>(hown.lt g hg).1)
   case measure=>simp [Go.RowKit.intOf];omega
  ·have HM:Hid ((k:Int) % 256=(k:Int)):=by show _=_;omega
   have hk1:k<128:=by omega
   go_wp2_with (at_builtin;refine wpList_append_own _ rfl _ _ 68 rfl w.heap.size 5 i0 (.int .u8 0) 1 1 Tryz.underlying68 hi hz0 hz1 hz2 rfl (by decide) _ _ _ rfl (hown.alloc _) ⟨wr.heap.size,0,none⟩ 1 1 [.int .u8 _] rfl rfl (cell_one_new _ _ _) (fun x hx=>by simp at hx;subst hx;rfl) (by unfold maxLen;omega) (by omega) (by simp;omega) ?_;intro v' w3 hown' hgrow3 hnil3;(first|rw [HM.out] at hown'|skip);(rw [Vi.cells_snoc] at hown');(have hcv:=str_of_own (l:=pre++[k]) hown'))
   go_ret
   refine ⟨?_,(hb.alloc hsz _).grown hgrow3 (by simp;omega) (fun g hg=>(hown.lt g hg).1)⟩
   have h1:=HP.out
   rw [Vi.put_small k hk1] at h1
   rw [h1];rfl
theorem rput_any (n:Nat) (w:World) (hn:n<18446744073709551616) :
 Calls Tryz.prog 117 #[.int .u64 n] w fun e w'=>e=.returned (.string (Vi.putB n))∧Below w.heap.size w w':=by
 obtain ⟨i0,hi,hz0,hz1,hz2⟩:=info_parts Tryz.info5
 have HN:=zh hn
 clear hn
 go_enter Tryz.func117,Tryz.ntmps117
 go_wp2
 go_loopw [0,3] (fun m v wr=>∃ (k:Nat) (pre:List Nat),m=.int .u64 (k:Int)∧k<18446744073709551616∧Hid (pre++Vi.put k=Vi.put n)∧wr.ownsRow w.heap.size 5 1 v pre.length (Vi.cells pre)∧Below w.heap.size w wr) (fun m _ _=>(Go.RowKit.intOf m).toNat)
 case atStart=>exact ⟨n,[],rfl,HN.out,rfl,World.ownsRow_nil _ _ _ _,Below.refl _ _⟩
 case round =>
  obtain ⟨k,pre,rfl,hk,HP,hown,hb⟩:=hrel
  have hpl:pre.length≤9:=by
   have h1:=Vi.put_length_le n 9 (Nat.lt_trans HN.out (by decide))
   have h2:=Vi.put_length_pos k
   have h3:=congrArg List.length HP.out
   rw [List.length_append] at h3
   omega
  have hsz:=hb.size
  have hki:(k:Int)≤18446744073709551615:=by omega
  clear hk
  by_cases hlt:128≤k
  ·go_wp2_with (at_builtin;refine wpList_append_own _ rfl _ _ 68 rfl w.heap.size 5 i0 (.int .u8 0) 1 1 Tryz.underlying68 hi hz0 hz1 hz2 rfl (by decide) _ _ _ rfl (hown.alloc _) ⟨wr.heap.size,0,none⟩ 1 1 [.int .u8 _] rfl rfl (cell_one_new _ _ _) (fun x hx=>by simp at hx;subst hx;rfl) (by unfold maxLen;omega) (by omega) (by simp;omega) ?_;intro v' w3 hown' hgrow3 hnil3)
   go_roundw
   case rel =>
    have HO:Hid (((k:Int) % 128+128)=((k % 128+128:Nat):Int)):=by show _=_;omega
    rw [HO.out,Vi.cells_snoc] at hown'
    refine ⟨k / 128,pre++[k % 128+128],by first|rfl|(push_cast;rfl),by omega,?_,by rw [List.length_append];exact hown',?_⟩
    ·have h1:=HP.out
     rw [Vi.put_big k hlt] at h1
     rw [List.append_assoc];exact h1
    ·exact (hb.alloc hsz _).grown hgrow3 (by simp;omega) (fun g hg=>(hown.lt g hg).1)
   case measure=>simp [Go.RowKit.intOf];omega
  ·have hk1:k<128:=by omega
   go_wp2_with (at_builtin;refine wpList_append_own _ rfl _ _ 68 rfl w.heap.size 5 i0 (.int .u8 0) 1 1 Tryz.underlying68 hi hz0 hz1 hz2 rfl (by decide) _ _ _ rfl (hown.alloc _) ⟨wr.heap.size,0,none⟩ 1 1 [.int .u8 _] rfl rfl (cell_one_new _ _ _) (fun x hx=>by simp at hx;subst hx;rfl) (by unfold maxLen;omega) (by omega) (by simp;omega) ?_;intro v' w3 hown' hgrow3 hnil3;(rw [Vi.cells_snoc] at hown');(have hcv:=str_of_own (l:=pre++[k]) hown'))
   go_ret
   refine ⟨?_,(hb.alloc hsz _).grown hgrow3 (by simp;omega) (fun g hg=>(hown.lt g hg).1)⟩
   have h1:=HP.out
   rw [Vi.put_small k hk1] at h1
   rw [h1];rfl
theorem putB_size (n:Nat) (hn:n<18446744073709551616):(Vi.putB n).size≤10:=by
 unfold Vi.putB
 rw [Vi.str_size]
 exact Vi.put_length_le n 9 (Nat.lt_trans hn (by decide))
end Go.Proofs.YtnobeoppffoomaaGreat
