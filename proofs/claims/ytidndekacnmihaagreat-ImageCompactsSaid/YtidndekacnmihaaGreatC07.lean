/- Parts of a proof. -/
import Derived.Test.YtidndekacnmihaaGreatC02
set_option linter.all false
set_option maxHeartbeats 8000000
set_option maxRecDepth 100000
namespace Go.Proofs.YtidndekacnmihaaGreat
open Bool renaming true→i,false→C
open Ending renaming returned→B
open Go renaming World→r,Calls→z
open Go.RowKit renaming intOf→D
open IntKind renaming u64→f,i64→p
open Option renaming some→q
open Tryz renaming prog→A
open Value renaming int→d
open Tryz
open Go.RowKit
namespace Vi
def be (l:List Nat):Nat:=l.foldl (fun a b=>a*256+b) 0
theorem zmX (l:List Nat) (b:Nat):be (l++[b])=be l*256+b:=by unfold be;rw [List.foldl_append];rfl
theorem ziZ (l:List Nat) (k:Nat) (hk:k<l.length):be (l.take (k+1))=be (l.take k)*256+l.getD k 0:=by
 rw [zft l k hk,zmX]
theorem zbO (l:List Nat) (hl:∀ j,l.getD j 0<256):∀ k,be (l.take k)<256 ^ k
 | 0=>by simp [be]
 | k+1=>by
   have ih:=zbO l hl k;rw [Nat.pow_succ];rcases zum k l.length with h|h
   ·rw [ziZ l k h]
    have:=hl k
    omega
   ·rw [zt9 (by omega)];rw [zt9 (by omega)] at ih;omega
theorem zgo (l:List Nat) (hl:∀ j,l.getD j 0<256) (k:Nat) (hk:k≤7):be (l.take k)<72057594037927936 :=
 zuk (zbO l hl k) (ztL (Nat.pow_le_pow_right (by omega) hk) (by decide))
def za3 (s:ByteArray) (n:Int):Bool:=decide (0≤n∧n≤8∧n≤s.size)
def za1 (s:ByteArray) (n:Int):Nat:=if za3 s n=i then be ((nums s).take n.toNat) else 0
def zan (s:ByteArray) (n:Int):ByteArray:=if za3 s n=i then s.extract n.toNat s.size else ⟨#[]⟩
theorem ztm (n b:Nat) (hn:n<72057594037927936) (hb:b<256) (X:Int) (hX:X=(b:Int)):bits BinOp.or f (f.wrap ((n:Int)*256)) X=((n*256+b:Nat):Int):=by
 subst hX
 have h1:f.wrap ((n:Int)*256)=((2 ^ 8*n:Nat):Int):=by
  rw [IntWalk.u64_in _ (by omega),Int.natCast_mul]
  have:((2 ^ 8:Nat):Int)=256:=by decide
  rw [this];omega
 have hor:=Nat.two_pow_add_eq_or_of_lt (show b<2 ^ 8 from hb) n;rw [h1,u64_or_nat (2 ^ 8*n) b (by omega) (by omega),←hor]
 congr 1;omega
end Vi
theorem zmY (g:Nat) (s:ByteArray) (bad:Bool) (n:Int) (w:r) (h:Rd 327 g s bad w) (hn:n<0∨8<n∨s.size<n) :
 z A 262 #[rdp g,d p n] w fun e w'=>e=B (d f 0)∧Rd 327 g ⟨#[]⟩ i w'∧w.grownBy w' (q g):=by
 have hL:=zh (zbr g _ bad w h);have hF:=zh (zcF g _ bad w h);rcases (show n<0∨8<n∨(0≤n∧n≤8∧s.size<n) by omega) with hn|hn|⟨hn0,hn8,hn⟩
 ·unfold rdp at *;go_enter func262,ntmps262
  go_wp2_with fail
  refine hF.out.mono ?_;rintro e w1 ⟨rfl,h1,h2⟩;go_wp2;go_ret;exact ⟨rfl,h1,h2⟩
 ·have hn0:¬ n<0:=by omega
  unfold rdp at *;go_enter func262,ntmps262
  go_wp2_with fail
  refine hF.out.mono ?_;rintro e w1 ⟨rfl,h1,h2⟩;go_wp2;go_ret;exact ⟨rfl,h1,h2⟩
 ·have hn0':¬ n<0:=by omega
  have hn8':¬ 8<n:=by omega
  unfold rdp at *;go_enter func262,ntmps262
  go_wp2_with fail
  refine hL.out.mono ?_;rintro e w1 ⟨rfl,rfl⟩
  go_wp2_with fail
  refine hF.out.mono ?_;rintro e w1 ⟨rfl,h1,h2⟩;go_wp2;go_ret;exact ⟨rfl,h1,h2⟩
theorem zkO (g:Nat) (s:ByteArray) (bad:Bool) (n:Nat) (w:r) (h:Rd 327 g s bad w) (hm:s.size≤281474976710656) (hn:n≤8) (hns:n≤s.size) :
 z A 262 #[rdp g,d p n] w fun e w'=>e=B (d f (Vi.be ((Vi.nums s).take n)))∧Rd 327 g (s.extract n s.size) bad w'∧w.grownBy w' (q g):=by
 have hmf:=zmL;have hL:=zh (zbr g _ bad w h);have hl:=Vi.zaA s;have hn0:¬ ((n:Int)<0):=by omega
 have hn8:¬ ((8:Int)<n):=by omega
 have hns':decide (s.size<n)=C:=ztM (by omega);have HE:Hid (s.extract 0 s.size=s):=by show _=_;apply ByteArray.ext;simp
 unfold rdp at *;go_enter func262,ntmps262
 go_wp2_with fail
 refine hL.out.mono ?_;rintro e w1 ⟨rfl,rfl⟩;go_wp2
 go_loopw [6,24] (fun v c wr=>∃ k:Nat,k≤n∧c=d p k∧v=d f ((Vi.be ((Vi.nums s).take k):Nat):Int)∧Rd 327 g (s.extract k s.size) bad wr∧w.grownBy wr (q g)) (fun _ c _=>n-(D c).toNat)
 case atStart=>exact ⟨0,by omega,rfl,rfl,by rw [HE.out];exact h,World.grownBy.refl _ _⟩
 case round =>
  obtain ⟨k,hk,rfl,rfl,hr,hb⟩:=hrel
  by_cases hlt:k<n
  ·have hN:=zh (zic g _ bad wr hr (by rw [zue];omega) (by rw [zue];omega));have HH:=zh (Vi.zfy s k (by omega));have HT:=zh (Vi.zcZ s k (by omega));have HS:=zh (fun X hX=>Vi.ztm _ _ (Vi.zgo (Vi.nums s) (Vi.zaG s) k (by omega)) (Vi.zaG s k) X hX);have HB:=zh (Vi.ziZ (Vi.nums s) k (by omega));clear hmf hL hl;unfold rdp at *;generalize Vi.be ((Vi.nums s).take k)=v at *
   go_wp2_with fail
   refine hN.out.mono ?_;rintro e w1 ⟨rfl,h1,h2⟩;rw [HT.out] at h1;rw [HH.out];generalize hg:(Vi.nums s).getD k 0=b at *;have HG:=zh hg;clear hg;have hbt:b<256:=by rw [←HG.out];exact Vi.zaG s k
   have HW:Hid (f.wrap (b:Int)=(b:Int)):=IntWalk.u64_in _ (by omega);clear hbt;go_wp2
   go_roundw
   case rel =>
    rw [HS.out _ HW.out];exact ⟨k+1,by omega,by go_num,by rw [HB.out],h1,hb.trans h2⟩
   case measure=>simp [D];omega
  ·have hk':k=n:=by omega
   subst hk';clear hmf hL;go_wp2;go_ret;exact ⟨rfl,hr,hb⟩
theorem zaH (g:Nat) (s:ByteArray) (bad:Bool) (n:Int) (w:r) (h:Rd 327 g s bad w) (hm:s.size≤281474976710656) :
 z A 262 #[rdp g,d p n] w fun e w'=>e=B (d f (Vi.za1 s n))∧Rd 327 g (Vi.zan s n) (bad||!Vi.za3 s n) w'∧w.grownBy w' (q g):=by
 by_cases hn:0≤n∧n≤8∧n≤s.size
 ·have e:Vi.za3 s n=i:=ztN hn;unfold Vi.za1 Vi.zan;rw [if_pos e,if_pos e,e,Bool.not_true,zuH];obtain ⟨k,rfl⟩:=ztW hn.1;exact zkO g s bad k w h hm (by omega) (by omega)
 ·have e:Vi.za3 s n=C:=ztM hn;unfold Vi.za1 Vi.zan;rw [e,if_neg (by decide),if_neg (by decide),zux,zus];exact zmY g s bad n w h (by omega)
namespace Vi
end Vi
theorem zkP (g:Nat) (s:ByteArray) (bad:Bool) (n:Int) (w:r) (h:Rd 261 g s bad w) (hn:n<0∨8<n) :
 z A 190 #[rdp g,d p n] w fun e w'=>e=B (d f 0)∧Rd 261 g ⟨#[]⟩ i w'∧w.grownBy w' (q g):=by
 have hF:=zh (zfx g _ bad w h);rcases (show n<0∨8<n by omega) with hn|hn
 ·unfold rdp at *;go_enter func190,ntmps190
  go_wp2_with fail
  refine hF.out.mono ?_;rintro e w1 ⟨rfl,h1,h2⟩;go_wp2;go_ret;exact ⟨rfl,h1,h2⟩
 ·have hn0:¬ n<0:=by omega
  unfold rdp at *;go_enter func190,ntmps190
  go_wp2_with fail
  refine hF.out.mono ?_;rintro e w1 ⟨rfl,h1,h2⟩;go_wp2;go_ret;exact ⟨rfl,h1,h2⟩
theorem zi0 (g:Nat) (s:ByteArray) (bad:Bool) (n:Nat) (w:r) (h:Rd 261 g s bad w) (hs:Vi.Sane s bad) (hm:s.size≤281474976710656) (hn:n≤8) :
 z A 190 #[rdp g,d p n] w fun e w'=>e=B (d f (Vi.be (Vi.nums (Vi.zcG s n))))∧Rd 261 g (Vi.zdh s n) (bad||!Vi.zbC s n) w'∧w.grownBy w' (q g):=by
 have hB:=zh (zdi g s bad n w h hs hm)
 have hsz:(Vi.zcG s n).size≤8:=by
  unfold Vi.zcG
  split
  ·rw [zue];omega
  ·exact ztO _
 have hl:=Vi.zaA (Vi.zcG s n);generalize Vi.zcG s n=t at *;have hn0:¬ ((n:Int)<0):=by omega
 have hn8:¬ ((8:Int)<n):=by omega
 unfold rdp at *;go_enter func190,ntmps190
 go_wp2_with fail
 refine hB.out.mono ?_;rintro e w1 ⟨rfl,h1,h2⟩;clear hB;go_wp2
 go_loop [6,7] (fun v c=>∃ k:Nat,k≤t.size∧c=d p k∧v=d f ((Vi.be ((Vi.nums t).take k):Nat):Int)) (fun _ c=>t.size-(D c).toNat)
 case atStart=>exact ⟨0,by omega,rfl,rfl⟩
 case round =>
  obtain ⟨k,hk,rfl,rfl⟩:=hrel
  by_cases hlt:k<t.size
  ·have he:t[k].toNat=(Vi.nums t).getD k 0:=by
    unfold Vi.nums;rw [zuq,zuM,zt2 (by simpa using hlt)];rfl
   have hbt:=Vi.zaG t k;have hvt:=Vi.zgo (Vi.nums t) (Vi.zaG t) k (by omega);have HB:=zh (Vi.ziZ (Vi.nums t) k (by omega));generalize Vi.be ((Vi.nums t).take k)=v at *;generalize (Vi.nums t).getD k 0=b at *;have hv1:(v:Int)≤72057594037927935:=by omega
   clear hvt;have hW:f.wrap (b:Int)=(b:Int):=IntWalk.u64_in _ (by omega);have HW2:Hid (f.wrap ((v:Int)*256)=(v:Int)*256):=IntWalk.u64_in _ (by omega);have HW3:Hid (f.wrap ((v:Int)*256+b)=(v:Int)*256+b):=IntWalk.u64_in _ (by omega);go_wp2
   go_round
   case rel =>
    exact ⟨k+1,by omega,by go_num,by rw [HB.out];first|rfl|(push_cast;rfl)⟩
   case measure=>simp [D];omega
  ·have hk':k=t.size:=by omega
   subst hk';have HT:Hid ((Vi.nums t).take t.size=Vi.nums t):=by show _=_;rw [zt9 (by omega)]
   go_wp2;go_ret;rw [HT.out];exact ⟨rfl,h1,h2⟩
theorem zaI (g:Nat) (s:ByteArray) (bad:Bool) (n:Int) (w:r) (h:Rd 261 g s bad w) (hs:Vi.Sane s bad) (hm:s.size≤281474976710656) :
 z A 190 #[rdp g,d p n] w fun e w'=>e=B (d f (Vi.za1 s n))∧Rd 261 g (Vi.zan s n) (bad||!Vi.za3 s n) w'∧w.grownBy w' (q g):=by
 by_cases hn:0≤n∧n≤8
 ·obtain ⟨k,rfl⟩:=ztW hn.1;have hc:=zi0 g s bad k w h hs hm (by omega)
  by_cases hks:k≤s.size
  ·have e1:Vi.za3 s k=i:=ztN (by omega);have e2:Vi.zbC s k=i:=ztN (by omega);unfold Vi.za1 Vi.zan;unfold Vi.zcG Vi.zdh at hc;rw [if_pos e2,if_pos e2,e2,Vi.za7,List.drop_zero,Nat.sub_zero] at hc;rw [if_pos e1,if_pos e1,e1];exact hc
  ·have e1:Vi.za3 s k=C:=ztM (by omega);have e2:Vi.zbC s k=C:=ztM (by omega);unfold Vi.za1 Vi.zan;unfold Vi.zcG Vi.zdh at hc;rw [e2,if_neg (by decide),if_neg (by decide)] at hc;rw [e1,if_neg (by decide),if_neg (by decide)];exact hc
 ·have e:Vi.za3 s n=C:=ztM (by omega);unfold Vi.za1 Vi.zan;rw [e,if_neg (by decide),if_neg (by decide),zux,zus];exact zkP g s bad n w h (by omega)
theorem Vi.sane_fix (s:ByteArray) (bad:Bool) (n:Int) (h:Vi.Sane s bad):Vi.Sane (Vi.zan s n) (bad||!Vi.za3 s n):=by
 intro hb;unfold Vi.zan
 cases ho:Vi.za3 s n
 ·rfl
 ·rw [ho] at hb
  have:=h (by simpa using hb)
  subst this;apply ByteArray.ext;simp
namespace Vi
theorem zsJ (a:Nat):∀ k,be (fx a k)=a % 256 ^ k
 | 0=>by simp [fx,be,Nat.mod_one]
 | k+1=>by
   have hc:∀ (l:List Nat) (x:Nat),l.foldl (fun a b=>a*256+b) x=x*256 ^ l.length+be l:=by
    intro l;induction l with
    | nil=>intro x;simp [be]
    | cons y l ih =>
      intro x
      have e:be (y :: l)=y*256 ^ l.length+be l:=by
       show l.foldl (fun a b=>a*256+b) (0*256+y)=_;rw [Nat.zero_mul,zub];exact ih y
      rw [List.foldl_cons,ih,e,zud,Nat.pow_succ,Nat.add_mul,Nat.mul_comm (256 ^ l.length) 256,Nat.mul_assoc,Nat.add_assoc]
   have e:be (fx a (k+1))=(a / 256 ^ k % 256)*256 ^ (fx a k).length+be (fx a k):=by
    show (fx a k).foldl (fun a b=>a*256+b) (0*256+a / 256 ^ k % 256)=_;rw [Nat.zero_mul,zub];exact hc _ _
   rw [e,zd2,zsJ a k,Nat.mod_pow_succ,Nat.mul_comm,Nat.add_comm]
theorem zrD (a:Nat):∀ k,∀ x∈fx a k,x<256
 | 0=>by simp [fx]
 | k+1=>by
   intro x hx;rw [fx] at hx;rcases ztT.1 hx with rfl|hx
   ·exact Nat.mod_lt _ (by omega)
   ·exact zrD a k x hx
theorem zjS (a k:Nat) (hk:k≤8):fxB a (k:Int)=str (fx a k):=by unfold fxB;rw [if_pos (by omega),ztV]
theorem zac (a k:Nat) (hk:k≤8):(fxB a (k:Int)).size=k:=by rw [zjS a k hk,zb2,zd2]
theorem zcb (a k:Nat) (hk:k≤8) (t:ByteArray):za1 (fxB a k++t) k=a % 256 ^ k∧zan (fxB a k++t) k=t∧za3 (fxB a k++t) k=i:=by
 have hz:=zac a k hk;have hh:za3 (fxB a k++t) k=i:=ztN (by rw [ztS];omega);unfold za1 zan;rw [hh,if_pos rfl,if_pos rfl,ztV];refine ⟨?_,?_,rfl⟩
 ·have e:nums (fxB a k)=fx a k:=by rw [zjS a k hk,zeU _ (zrD a k)]
  rw [zbq,e,List.take_left' (zd2 a k),zsJ]
 ·have:=zcH (fxB a k) t
  rw [hz] at this;exact this
end Vi
end Go.Proofs.YtidndekacnmihaaGreat
