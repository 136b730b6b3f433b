/- Parts of a proof. -/
import Derived.Test.YtidndekacnmihaaGreatF01
set_option linter.unusedVariables false
set_option linter.unusedSimpArgs false
set_option maxHeartbeats 8000000
set_option maxRecDepth 100000
namespace Go.Proofs.YtidndekacnmihaaGreat
open Go.RowKit
namespace Vi
end Vi
namespace Vi
def be (l:List Nat):Nat:=l.foldl (fun a b=>a*256+b) 0
theorem zmn (l:List Nat) (b:Nat):be (l++[b])=be l*256+b:=by unfold be;rw [List.foldl_append];rfl
theorem ziM (l:List Nat) (k:Nat) (hk:k<l.length):be (l.take (k+1))=be (l.take k)*256+l.getD k 0:=by
 rw [zfq l k hk,zmn]
theorem zbI (l:List Nat) (hl:∀ j,l.getD j 0<256):∀ k,be (l.take k)<256 ^ k
 | 0=>by simp [be]
 | k+1=>by
   have ih:=zbI l hl k;rw [Nat.pow_succ];rcases zte k l.length with h|h
   ·rw [ziM l k h]
    have:=hl k
    omega
   ·rw [zsX (by omega)];rw [zsX (by omega)] at ih;omega
theorem zge (l:List Nat) (hl:∀ j,l.getD j 0<256) (k:Nat) (hk:k≤7):be (l.take k)<72057594037927936 :=
 zs8 (zbI l hl k) (zsB (Nat.pow_le_pow_right (by omega) hk) (by decide))
def za1 (s:ByteArray) (n:Int):Bool:=decide (0≤n∧n≤8∧n≤s.size)
def zaZ (s:ByteArray) (n:Int):Nat:=if za1 s n=true then be ((nums s).take n.toNat) else 0
def zan (s:ByteArray) (n:Int):ByteArray:=if za1 s n=true then s.extract n.toNat s.size else ⟨#[]⟩
theorem zsd (n b:Nat) (hn:n<72057594037927936) (hb:b<256) (X:Int) (hX:X=(b:Int)):bits BinOp.or IntKind.u64 (IntKind.u64.wrap ((n:Int)*256)) X=((n*256+b:Nat):Int):=by
 subst hX
 have h1:IntKind.u64.wrap ((n:Int)*256)=((2 ^ 8*n:Nat):Int):=by
  rw [IntWalk.u64_in _ (by omega),Int.natCast_mul]
  have:((2 ^ 8:Nat):Int)=256:=by decide
  rw [this];omega
 have hor:=Nat.two_pow_add_eq_or_of_lt (show b<2 ^ 8 from hb) n;rw [h1,u64_or_nat (2 ^ 8*n) b (by omega) (by omega),←hor]
 congr 1;omega
end Vi
theorem zmo (g:Nat) (s:ByteArray) (bad:Bool) (n:Int) (w:World) (h:Rd 327 g s bad w) (hn:n<0∨8<n∨s.size<n) :
 Calls Tryz.prog 262 #[rdp g,.int .i64 n] w fun e w'=>e=.returned (.int .u64 0)∧Rd 327 g ⟨#[]⟩ true w'∧w.grownBy w' (some g):=by
 have hL:=zh (zbp g _ bad w h);have hF:=zh (zcz g _ bad w h);rcases (show n<0∨8<n∨(0≤n∧n≤8∧s.size<n) by omega) with hn|hn|⟨hn0,hn8,hn⟩
 ·unfold rdp at *;go_enter Tryz.func262,Tryz.ntmps262
  go_wp2_with fail
  refine hF.out.mono ?_;rintro e w1 ⟨rfl,h1,h2⟩;go_wp2;go_ret;exact ⟨rfl,h1,h2⟩
 ·have hn0:¬ n<0:=by omega
  unfold rdp at *;go_enter Tryz.func262,Tryz.ntmps262
  go_wp2_with fail
  refine hF.out.mono ?_;rintro e w1 ⟨rfl,h1,h2⟩;go_wp2;go_ret;exact ⟨rfl,h1,h2⟩
 ·have hn0':¬ n<0:=by omega
  have hn8':¬ 8<n:=by omega
  unfold rdp at *;go_enter Tryz.func262,Tryz.ntmps262
  go_wp2_with fail
  refine hL.out.mono ?_;rintro e w1 ⟨rfl,rfl⟩
  go_wp2_with fail
  refine hF.out.mono ?_;rintro e w1 ⟨rfl,h1,h2⟩;go_wp2;go_ret;exact ⟨rfl,h1,h2⟩
theorem zkt (g:Nat) (s:ByteArray) (bad:Bool) (n:Nat) (w:World) (h:Rd 327 g s bad w) (hm:s.size≤281474976710656) (hn:n≤8) (hns:n≤s.size) :
 Calls Tryz.prog 262 #[rdp g,.int .i64 n] w fun e w'=>e=.returned (.int .u64 (Vi.be ((Vi.nums s).take n)))∧Rd 327 g (s.extract n s.size) bad w'∧w.grownBy w' (some g):=by
 have hmf:=zmL;have hL:=zh (zbp g _ bad w h);have hl:=Vi.zaz s;have hn0:¬ ((n:Int)<0):=by omega
 have hn8:¬ ((8:Int)<n):=by omega
 have hns':decide (s.size<n)=false:=zsC (by omega);have HE:Hid (s.extract 0 s.size=s):=by show _=_;apply ByteArray.ext;simp
 unfold rdp at *;go_enter Tryz.func262,Tryz.ntmps262
 go_wp2_with fail
 refine hL.out.mono ?_;rintro e w1 ⟨rfl,rfl⟩;go_wp2
 go_loopw [6,24] (fun v c wr=>∃ k:Nat,k≤n∧c=.int .i64 k∧v=.int .u64 ((Vi.be ((Vi.nums s).take k):Nat):Int)∧Rd 327 g (s.extract k s.size) bad wr∧w.grownBy wr (some g)) (fun _ c _=>n-(Go.RowKit.intOf c).toNat)
 case atStart=>exact ⟨0,by omega,rfl,rfl,by rw [HE.out];exact h,World.grownBy.refl _ _⟩
 case round =>
  obtain ⟨k,hk,rfl,rfl,hr,hb⟩:=hrel
  by_cases hlt:k<n
  ·have hN:=zh (zhW g _ bad wr hr (by rw [zs5];omega) (by rw [zs5];omega));have HH:=zh (Vi.zfv s k (by omega));have HT:=zh (Vi.zcT s k (by omega));have HS:=zh (fun X hX=>Vi.zsd _ _ (Vi.zge (Vi.nums s) (Vi.zaE s) k (by omega)) (Vi.zaE s k) X hX);have HB:=zh (Vi.ziM (Vi.nums s) k (by omega));clear hmf hL hl;unfold rdp at *;generalize Vi.be ((Vi.nums s).take k)=v at *
   go_wp2_with fail
   refine hN.out.mono ?_;rintro e w1 ⟨rfl,h1,h2⟩;rw [HT.out] at h1;rw [HH.out];generalize hg:(Vi.nums s).getD k 0=b at *;have HG:=zh hg;clear hg;have hbt:b<256:=by rw [←HG.out];exact Vi.zaE s k
   have HW:Hid (IntKind.u64.wrap (b:Int)=(b:Int)):=IntWalk.u64_in _ (by omega);clear hbt;go_wp2
   go_roundw
   case rel =>
    rw [HS.out _ HW.out];exact ⟨k+1,by omega,by go_num,by rw [HB.out],h1,hb.trans h2⟩
   case measure=>simp [Go.RowKit.intOf];omega
  ·have hk':k=n:=by omega
   subst hk';clear hmf hL;go_wp2;go_ret;exact ⟨rfl,hr,hb⟩
theorem zaF (g:Nat) (s:ByteArray) (bad:Bool) (n:Int) (w:World) (h:Rd 327 g s bad w) (hm:s.size≤281474976710656) :
 Calls Tryz.prog 262 #[rdp g,.int .i64 n] w fun e w'=>e=.returned (.int .u64 (Vi.zaZ s n))∧Rd 327 g (Vi.zan s n) (bad||!Vi.za1 s n) w'∧w.grownBy w' (some g):=by
 by_cases hn:0≤n∧n≤8∧n≤s.size
 ·have e:Vi.za1 s n=true:=zsD hn;unfold Vi.zaZ Vi.zan;rw [if_pos e,if_pos e,e,Bool.not_true,Bool.or_false];obtain ⟨k,rfl⟩:=zsM hn.1;exact zkt g s bad k w h hm (by omega) (by omega)
 ·have e:Vi.za1 s n=false:=zsC hn;unfold Vi.zaZ Vi.zan;rw [e,if_neg (by decide),if_neg (by decide),ztl,ztg];exact zmo g s bad n w h (by omega)
namespace Vi
end Vi
theorem zku (g:Nat) (s:ByteArray) (bad:Bool) (n:Int) (w:World) (h:Rd 261 g s bad w) (hn:n<0∨8<n) :
 Calls Tryz.prog 190 #[rdp g,.int .i64 n] w fun e w'=>e=.returned (.int .u64 0)∧Rd 261 g ⟨#[]⟩ true w'∧w.grownBy w' (some g):=by
 have hF:=zh (zfu g _ bad w h);rcases (show n<0∨8<n by omega) with hn|hn
 ·unfold rdp at *;go_enter Tryz.func190,Tryz.ntmps190
  go_wp2_with fail
  refine hF.out.mono ?_;rintro e w1 ⟨rfl,h1,h2⟩;go_wp2;go_ret;exact ⟨rfl,h1,h2⟩
 ·have hn0:¬ n<0:=by omega
  unfold rdp at *;go_enter Tryz.func190,Tryz.ntmps190
  go_wp2_with fail
  refine hF.out.mono ?_;rintro e w1 ⟨rfl,h1,h2⟩;go_wp2;go_ret;exact ⟨rfl,h1,h2⟩
theorem ziN (g:Nat) (s:ByteArray) (bad:Bool) (n:Nat) (w:World) (h:Rd 261 g s bad w) (hs:Vi.Sane s bad) (hm:s.size≤281474976710656) (hn:n≤8) :
 Calls Tryz.prog 190 #[rdp g,.int .i64 n] w fun e w'=>e=.returned (.int .u64 (Vi.be (Vi.nums (Vi.zcA s n))))∧Rd 261 g (Vi.zc8 s n) (bad||!Vi.zbx s n) w'∧w.grownBy w' (some g):=by
 have hB:=zh (zc9 g s bad n w h hs hm)
 have hsz:(Vi.zcA s n).size≤8:=by
  unfold Vi.zcA
  split
  ·rw [zs5];omega
  ·exact zsE _
 have hl:=Vi.zaz (Vi.zcA s n);generalize Vi.zcA s n=t at *;have hn0:¬ ((n:Int)<0):=by omega
 have hn8:¬ ((8:Int)<n):=by omega
 unfold rdp at *;go_enter Tryz.func190,Tryz.ntmps190
 go_wp2_with fail
 refine hB.out.mono ?_;rintro e w1 ⟨rfl,h1,h2⟩;clear hB;go_wp2
 go_loop [6,7] (fun v c=>∃ k:Nat,k≤t.size∧c=.int .i64 k∧v=.int .u64 ((Vi.be ((Vi.nums t).take k):Nat):Int)) (fun _ c=>t.size-(Go.RowKit.intOf c).toNat)
 case atStart=>exact ⟨0,by omega,rfl,rfl⟩
 case round =>
  obtain ⟨k,hk,rfl,rfl⟩:=hrel
  by_cases hlt:k<t.size
  ·have he:t[k].toNat=(Vi.nums t).getD k 0:=by
    unfold Vi.nums;rw [ztc,List.getElem?_map,zsW (by simpa using hlt)];rfl
   have hbt:=Vi.zaE t k;have hvt:=Vi.zge (Vi.nums t) (Vi.zaE t) k (by omega);have HB:=zh (Vi.ziM (Vi.nums t) k (by omega));generalize Vi.be ((Vi.nums t).take k)=v at *;generalize (Vi.nums t).getD k 0=b at *;have hv1:(v:Int)≤72057594037927935:=by omega
   clear hvt;have hW:IntKind.u64.wrap (b:Int)=(b:Int):=IntWalk.u64_in _ (by omega);have HW2:Hid (IntKind.u64.wrap ((v:Int)*256)=(v:Int)*256):=IntWalk.u64_in _ (by omega);have HW3:Hid (IntKind.u64.wrap ((v:Int)*256+b)=(v:Int)*256+b):=IntWalk.u64_in _ (by omega);go_wp2
   go_round
   case rel =>
    exact ⟨k+1,by omega,by go_num,by rw [HB.out];first|rfl|(push_cast;rfl)⟩
   case measure=>simp [Go.RowKit.intOf];omega
  ·have hk':k=t.size:=by omega
   subst hk';have HT:Hid ((Vi.nums t).take t.size=Vi.nums t):=by show _=_;rw [zsX (by omega)]
   go_wp2;go_ret;rw [HT.out];exact ⟨rfl,h1,h2⟩
theorem zaG (g:Nat) (s:ByteArray) (bad:Bool) (n:Int) (w:World) (h:Rd 261 g s bad w) (hs:Vi.Sane s bad) (hm:s.size≤281474976710656) :
 Calls Tryz.prog 190 #[rdp g,.int .i64 n] w fun e w'=>e=.returned (.int .u64 (Vi.zaZ s n))∧Rd 261 g (Vi.zan s n) (bad||!Vi.za1 s n) w'∧w.grownBy w' (some g):=by
 by_cases hn:0≤n∧n≤8
 ·obtain ⟨k,rfl⟩:=zsM hn.1;have hc:=ziN g s bad k w h hs hm (by omega)
  by_cases hks:k≤s.size
  ·have e1:Vi.za1 s k=true:=zsD (by omega);have e2:Vi.zbx s k=true:=zsD (by omega);unfold Vi.zaZ Vi.zan;unfold Vi.zcA Vi.zc8 at hc;rw [if_pos e2,if_pos e2,e2,Vi.za5,List.drop_zero,Nat.sub_zero] at hc;rw [if_pos e1,if_pos e1,e1];exact hc
  ·have e1:Vi.za1 s k=false:=zsC (by omega);have e2:Vi.zbx s k=false:=zsC (by omega);unfold Vi.zaZ Vi.zan;unfold Vi.zcA Vi.zc8 at hc;rw [e2,if_neg (by decide),if_neg (by decide)] at hc;rw [e1,if_neg (by decide),if_neg (by decide)];exact hc
 ·have e:Vi.za1 s n=false:=zsC (by omega);unfold Vi.zaZ Vi.zan;rw [e,if_neg (by decide),if_neg (by decide),ztl,ztg];exact zku g s bad n w h (by omega)
theorem Vi.sane_fix (s:ByteArray) (bad:Bool) (n:Int) (h:Vi.Sane s bad):Vi.Sane (Vi.zan s n) (bad||!Vi.za1 s n):=by
 intro hb;unfold Vi.zan
 cases ho:Vi.za1 s n
 ·rfl
 ·rw [ho] at hb
  have:=h (by simpa using hb)
  subst this;apply ByteArray.ext;simp
namespace Vi
theorem zrB (a:Nat):∀ k,be (fx a k)=a % 256 ^ k
 | 0=>by simp [fx,be,Nat.mod_one]
 | k+1=>by
   have hc:∀ (l:List Nat) (x:Nat),l.foldl (fun a b=>a*256+b) x=x*256 ^ l.length+be l:=by
    intro l;induction l with
    | nil=>intro x;simp [be]
    | cons y l ih =>
      intro x
      have e:be (y :: l)=y*256 ^ l.length+be l:=by
       show l.foldl (fun a b=>a*256+b) (0*256+y)=_;rw [Nat.zero_mul,zs0];exact ih y
      rw [List.foldl_cons,ih,e,zs2,Nat.pow_succ,Nat.add_mul,Nat.mul_comm (256 ^ l.length) 256,Nat.mul_assoc,Nat.add_assoc]
   have e:be (fx a (k+1))=(a / 256 ^ k % 256)*256 ^ (fx a k).length+be (fx a k):=by
    show (fx a k).foldl (fun a b=>a*256+b) (0*256+a / 256 ^ k % 256)=_;rw [Nat.zero_mul,zs0];exact hc _ _
   rw [e,zdU,zrB a k,Nat.mod_pow_succ,Nat.mul_comm,Nat.add_comm]
theorem zqy (a:Nat):∀ k,∀ x∈fx a k,x<256
 | 0=>by simp [fx]
 | k+1=>by
   intro x hx;rw [fx] at hx;rcases zsL.1 hx with rfl|hx
   ·exact Nat.mod_lt _ (by omega)
   ·exact zqy a k x hx
theorem zjE (a k:Nat) (hk:k≤8):fxB a (k:Int)=str (fx a k):=by unfold fxB;rw [if_pos (by omega),zsK]
theorem zad (a k:Nat) (hk:k≤8):(fxB a (k:Int)).size=k:=by rw [zjE a k hk,zc5,zdU]
theorem zb7 (a k:Nat) (hk:k≤8) (t:ByteArray):zaZ (fxB a k++t) k=a % 256 ^ k∧zan (fxB a k++t) k=t∧za1 (fxB a k++t) k=true:=by
 have hz:=zad a k hk;have hh:za1 (fxB a k++t) k=true:=zsD (by rw [zsH];omega);unfold zaZ zan;rw [hh,if_pos rfl,if_pos rfl,zsK];refine ⟨?_,?_,rfl⟩
 ·have e:nums (fxB a k)=fx a k:=by rw [zjE a k hk,zeN _ (zqy a k)]
  rw [zbo,e,List.take_left' (zdU a k),zrB]
 ·have:=zcB (fxB a k) t
  rw [hz] at this;exact this
end Vi
end Go.Proofs.YtidndekacnmihaaGreat
