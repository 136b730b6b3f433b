/-
  FrameCodes: part G03.
  Conditions: named in each theorem.
-/
import Derived.Lib.ConvBytes
import Derived.Test.YtpdbeijfchmlgaaGreatZ0
import Derived.Test.YtpdbeijfchmlgaaGreatG01
import Derived.Test.YtpdbeijfchmlgaaGreatG02
set_option linter.unusedVariables false
set_option linter.unusedSimpArgs false
set_option maxHeartbeats 16000000
set_option maxRecDepth 100000
namespace Go.Proofs.YtpdbeijfchmlgaaGreat
open Go.RowKit
namespace Vi
end Vi
namespace Vi
def be (l:List Nat):Nat:=l.foldl (fun a b=>a*256+b) 0
theorem be_snoc (l:List Nat) (b:Nat):be (l++[b])=be l*256+b:=by unfold be;rw [List.foldl_append];rfl
theorem be_take (l:List Nat) (k:Nat) (hk:k<l.length):be (l.take (k+1))=be (l.take k)*256+l.getD k 0:=by
 rw [getD_take l k hk,be_snoc]
theorem be_take_lt (l:List Nat) (hl:∀ j,l.getD j 0<256):∀ k,be (l.take k)<256 ^ k
 | 0=>by simp [be]
 | k+1=>by
   have ih:=be_take_lt l hl k;rw [Nat.pow_succ]
   rcases Nat.lt_or_ge k l.length with h|h
   ·rw [be_take l k h]
    have:=hl k
    omega
   ·rw [List.take_of_length_le (by omega)];rw [List.take_of_length_le (by omega)] at ih;omega
theorem be_take_le (l:List Nat) (hl:∀ j,l.getD j 0<256) (k:Nat) (hk:k≤7):be (l.take k)<72057594037927936 :=
 Nat.lt_of_lt_of_le (be_take_lt l hl k) (Nat.le_trans (Nat.pow_le_pow_right (by omega) hk) (by decide))
def hasF (s:ByteArray) (n:Int):Bool:=decide (0≤n∧n≤8∧n≤s.size)
def fixV (s:ByteArray) (n:Int):Nat:=if hasF s n=true then be ((nums s).take n.toNat) else 0
def fixT (s:ByteArray) (n:Int):ByteArray:=if hasF s n=true then s.extract n.toNat s.size else ⟨#[]⟩
theorem byte8 (n b:Nat) (hn:n<72057594037927936) (hb:b<256) (X:Int) (hX:X=(b:Int)):bits BinOp.or IntKind.u64 (IntKind.u64.wrap ((n:Int)*256)) X=((n*256+b:Nat):Int):=by
 subst hX
 have h1:IntKind.u64.wrap ((n:Int)*256)=((2 ^ 8*n:Nat):Int):=by
  rw [IntWalk.u64_in _ (by omega),Int.natCast_mul]
  have:((2 ^ 8:Nat):Int)=256:=by decide
  rw [this];omega
 have hor:=Nat.two_pow_add_eq_or_of_lt (show b<2 ^ 8 from hb) n;rw [h1,u64_or_nat (2 ^ 8*n) b (by omega) (by omega),←hor]
 congr 1;omega
end Vi
theorem fixedr_no (g:Nat) (s:ByteArray) (bad:Bool) (n:Int) (w:World) (h:Rd 178 g s bad w) (hn:n<0∨8<n∨s.size<n) :
 Calls Tryz.prog 83 #[rdp g,.int .i64 n] w fun e w'=>e=.returned (.int .u64 0)∧Rd 178 g ⟨#[]⟩ true w'∧w.grownBy w' (some g):=by
 have hL:=zh (left_any g _ bad w h);have hF:=zh (fail_any g _ bad w h)
 rcases (show n<0∨8<n∨(0≤n∧n≤8∧s.size<n) by omega) with hn|hn|⟨hn0,hn8,hn⟩
 ·unfold rdp at *
  go_enter Tryz.func83,Tryz.ntmps83
  go_wp2_with fail
  refine hF.out.mono ?_;rintro e w1 ⟨rfl,h1,h2⟩;go_wp2;go_ret;exact ⟨rfl,h1,h2⟩
 ·have hn0:¬ n<0:=by omega
  unfold rdp at *
  go_enter Tryz.func83,Tryz.ntmps83
  go_wp2_with fail
  refine hF.out.mono ?_;rintro e w1 ⟨rfl,h1,h2⟩;go_wp2;go_ret;exact ⟨rfl,h1,h2⟩
 ·have hn0':¬ n<0:=by omega
  have hn8':¬ 8<n:=by omega
  unfold rdp at *
  go_enter Tryz.func83,Tryz.ntmps83
  go_wp2_with fail
  refine hL.out.mono ?_;rintro e w1 ⟨rfl,rfl⟩
  go_wp2_with fail
  refine hF.out.mono ?_;rintro e w1 ⟨rfl,h1,h2⟩;go_wp2;go_ret;exact ⟨rfl,h1,h2⟩
theorem fixedr_yes (g:Nat) (s:ByteArray) (bad:Bool) (n:Nat) (w:World) (h:Rd 178 g s bad w) (hm:s.size≤281474976710656) (hn:n≤8) (hns:n≤s.size) :
 Calls Tryz.prog 83 #[rdp g,.int .i64 n] w fun e w'=>e=.returned (.int .u64 (Vi.be ((Vi.nums s).take n)))∧Rd 178 g (s.extract n s.size) bad w'∧w.grownBy w' (some g):=by
 have hmf:=zmL;have hL:=zh (left_any g _ bad w h);have hl:=Vi.nums_length s;have hn0:¬ ((n:Int)<0):=by omega
 have hn8:¬ ((8:Int)<n):=by omega
 have hns':decide (s.size<n)=false:=decide_eq_false (by omega);have HE:Hid (s.extract 0 s.size=s):=by show _=_;apply ByteArray.ext;simp
 unfold rdp at *
 go_enter Tryz.func83,Tryz.ntmps83
 go_wp2_with fail
 refine hL.out.mono ?_;rintro e w1 ⟨rfl,rfl⟩;go_wp2
 go_loopw [6,24] (fun v c wr=>∃ k:Nat,k≤n∧c=.int .i64 k∧v=.int .u64 ((Vi.be ((Vi.nums s).take k):Nat):Int)∧Rd 178 g (s.extract k s.size) bad wr∧w.grownBy wr (some g)) (fun _ c _=>n-(intOf c).toNat)
 case atStart=>exact ⟨0,by omega,rfl,rfl,by rw [HE.out];exact h,World.grownBy.refl _ _⟩
 case round =>
  obtain ⟨k,hk,rfl,rfl,hr,hb⟩:=hrel
  by_cases hlt:k<n
  ·have hN:=zh (next_some g _ bad wr hr (by rw [ByteArray.size_extract];omega) (by rw [ByteArray.size_extract];omega));have HH:=zh (Vi.hdB_extract s k (by omega));have HT:=zh (Vi.extract_extract s k (by omega));have HS:=zh (fun X hX=>Vi.byte8 _ _ (Vi.be_take_le (Vi.nums s) (Vi.nums_getD_lt s) k (by omega)) (Vi.nums_getD_lt s k) X hX);have HB:=zh (Vi.be_take (Vi.nums s) k (by omega));clear hmf hL hl;unfold rdp at *;generalize Vi.be ((Vi.nums s).take k)=v at *
   go_wp2_with fail
   refine hN.out.mono ?_;rintro e w1 ⟨rfl,h1,h2⟩;rw [HT.out] at h1;rw [HH.out];generalize hg:(Vi.nums s).getD k 0=b at *;have HG:=zh hg;clear hg;have hbt:b<256:=by rw [←HG.out];exact Vi.nums_getD_lt s k
   have HW:Hid (IntKind.u64.wrap (b:Int)=(b:Int)):=IntWalk.u64_in _ (by omega);clear hbt;go_wp2
   go_roundw
   case rel =>
    rw [HS.out _ HW.out];exact ⟨k+1,by omega,by go_num,by rw [HB.out],h1,hb.trans h2⟩
   case measure=>simp [intOf];omega
  ·have hk':k=n:=by omega
   subst hk';clear hmf hL;go_wp2;go_ret;exact ⟨rfl,hr,hb⟩
theorem fixedr_any (g:Nat) (s:ByteArray) (bad:Bool) (n:Int) (w:World) (h:Rd 178 g s bad w) (hm:s.size≤281474976710656) :
 Calls Tryz.prog 83 #[rdp g,.int .i64 n] w fun e w'=>e=.returned (.int .u64 (Vi.fixV s n))∧Rd 178 g (Vi.fixT s n) (bad||!Vi.hasF s n) w'∧w.grownBy w' (some g):=by
 by_cases hn:0≤n∧n≤8∧n≤s.size
 ·have e:Vi.hasF s n=true:=decide_eq_true hn;unfold Vi.fixV Vi.fixT;rw [if_pos e,if_pos e,e,Bool.not_true,Bool.or_false];obtain ⟨k,rfl⟩:=Int.eq_ofNat_of_zero_le hn.1;exact fixedr_yes g s bad k w h hm (by omega) (by omega)
 ·have e:Vi.hasF s n=false:=decide_eq_false hn;unfold Vi.fixV Vi.fixT;rw [e,if_neg (by decide),if_neg (by decide),Bool.not_false,Bool.or_true];exact fixedr_no g s bad n w h (by omega)
namespace Vi
end Vi
theorem rfixedr_no (g:Nat) (s:ByteArray) (bad:Bool) (n:Int) (w:World) (h:Rd 72 g s bad w) (hn:n<0∨8<n) :
 Calls Tryz.prog 94 #[rdp g,.int .i64 n] w fun e w'=>e=.returned (.int .u64 0)∧Rd 72 g ⟨#[]⟩ true w'∧w.grownBy w' (some g):=by
 have hF:=zh (rfail_any g _ bad w h)
 rcases (show n<0∨8<n by omega) with hn|hn
 ·unfold rdp at *
  go_enter Tryz.func94,Tryz.ntmps94
  go_wp2_with fail
  refine hF.out.mono ?_;rintro e w1 ⟨rfl,h1,h2⟩;go_wp2;go_ret;exact ⟨rfl,h1,h2⟩
 ·have hn0:¬ n<0:=by omega
  unfold rdp at *
  go_enter Tryz.func94,Tryz.ntmps94
  go_wp2_with fail
  refine hF.out.mono ?_;rintro e w1 ⟨rfl,h1,h2⟩;go_wp2;go_ret;exact ⟨rfl,h1,h2⟩
theorem rfixedr_yes (g:Nat) (s:ByteArray) (bad:Bool) (n:Nat) (w:World) (h:Rd 72 g s bad w) (hs:Vi.Sane s bad) (hm:s.size≤281474976710656) (hn:n≤8) :
 Calls Tryz.prog 94 #[rdp g,.int .i64 n] w fun e w'=>e=.returned (.int .u64 (Vi.be (Vi.nums (Vi.bytV s n))))∧Rd 72 g (Vi.bytT s n) (bad||!Vi.hasB s n) w'∧w.grownBy w' (some g):=by
 have hB:=zh (rbytes_any g s bad n w h hs hm)
 have hsz:(Vi.bytV s n).size≤8:=by
  unfold Vi.bytV
  split
  ·rw [ByteArray.size_extract];omega
  ·exact Nat.zero_le _
 have hl:=Vi.nums_length (Vi.bytV s n);generalize Vi.bytV s n=t at *;have hn0:¬ ((n:Int)<0):=by omega
 have hn8:¬ ((8:Int)<n):=by omega
 unfold rdp at *
 go_enter Tryz.func94,Tryz.ntmps94
 go_wp2_with fail
 refine hB.out.mono ?_;rintro e w1 ⟨rfl,h1,h2⟩;clear hB;go_wp2
 go_loop [6,7] (fun v c=>∃ k:Nat,k≤t.size∧c=.int .i64 k∧v=.int .u64 ((Vi.be ((Vi.nums t).take k):Nat):Int)) (fun _ c=>t.size-(intOf c).toNat)
 case atStart=>exact ⟨0,by omega,rfl,rfl⟩
 case round =>
  obtain ⟨k,hk,rfl,rfl⟩:=hrel
  by_cases hlt:k<t.size
  ·have he:t[k].toNat=(Vi.nums t).getD k 0:=by
    unfold Vi.nums;rw [List.getD_eq_getElem?_getD,List.getElem?_map,List.getElem?_eq_getElem (by simpa using hlt)];rfl
   have hbt:=Vi.nums_getD_lt t k;have hvt:=Vi.be_take_le (Vi.nums t) (Vi.nums_getD_lt t) k (by omega);have HB:=zh (Vi.be_take (Vi.nums t) k (by omega));generalize Vi.be ((Vi.nums t).take k)=v at *;generalize (Vi.nums t).getD k 0=b at *;have hv1:(v:Int)≤72057594037927935:=by omega
   clear hvt;have hW:IntKind.u64.wrap (b:Int)=(b:Int):=IntWalk.u64_in _ (by omega);have HW2:Hid (IntKind.u64.wrap ((v:Int)*256)=(v:Int)*256):=IntWalk.u64_in _ (by omega);have HW3:Hid (IntKind.u64.wrap ((v:Int)*256+b)=(v:Int)*256+b):=IntWalk.u64_in _ (by omega);go_wp2
   go_round
   case rel =>
    exact ⟨k+1,by omega,by go_num,by rw [HB.out];first|rfl|(push_cast;rfl)⟩
   case measure=>simp [intOf];omega
  ·have hk':k=t.size:=by omega
   subst hk';have HT:Hid ((Vi.nums t).take t.size=Vi.nums t):=by show _=_;rw [List.take_of_length_le (by omega)]
   go_wp2;go_ret;rw [HT.out];exact ⟨rfl,h1,h2⟩
theorem rfixedr_any (g:Nat) (s:ByteArray) (bad:Bool) (n:Int) (w:World) (h:Rd 72 g s bad w) (hs:Vi.Sane s bad) (hm:s.size≤281474976710656) :
 Calls Tryz.prog 94 #[rdp g,.int .i64 n] w fun e w'=>e=.returned (.int .u64 (Vi.fixV s n))∧Rd 72 g (Vi.fixT s n) (bad||!Vi.hasF s n) w'∧w.grownBy w' (some g):=by
 by_cases hn:0≤n∧n≤8
 ·obtain ⟨k,rfl⟩:=Int.eq_ofNat_of_zero_le hn.1;have hc:=rfixedr_yes g s bad k w h hs hm (by omega)
  by_cases hks:k≤s.size
  ·have e1:Vi.hasF s k=true:=decide_eq_true (by omega);have e2:Vi.hasB s k=true:=decide_eq_true (by omega);unfold Vi.fixV Vi.fixT;unfold Vi.bytV Vi.bytT at hc;rw [if_pos e2,if_pos e2,e2,Vi.nums_extract,List.drop_zero,Nat.sub_zero] at hc;rw [if_pos e1,if_pos e1,e1];exact hc
  ·have e1:Vi.hasF s k=false:=decide_eq_false (by omega);have e2:Vi.hasB s k=false:=decide_eq_false (by omega);unfold Vi.fixV Vi.fixT;unfold Vi.bytV Vi.bytT at hc;rw [e2,if_neg (by decide),if_neg (by decide)] at hc;rw [e1,if_neg (by decide),if_neg (by decide)];exact hc
 ·have e:Vi.hasF s n=false:=decide_eq_false (by omega);unfold Vi.fixV Vi.fixT;rw [e,if_neg (by decide),if_neg (by decide),Bool.not_false,Bool.or_true];exact rfixedr_no g s bad n w h (by omega)
theorem Vi.sane_fix (s:ByteArray) (bad:Bool) (n:Int) (h:Vi.Sane s bad):Vi.Sane (Vi.fixT s n) (bad||!Vi.hasF s n):=by
 intro hb;unfold Vi.fixT
 cases ho:Vi.hasF s n
 ·rfl
 ·rw [ho] at hb
  have:=h (by simpa using hb)
  subst this
  apply ByteArray.ext;simp
namespace Vi
theorem be_fx (a:Nat):∀ k,be (fx a k)=a % 256 ^ k
 | 0=>by simp [fx,be,Nat.mod_one]
 | k+1=>by
   have hc:∀ (l:List Nat) (x:Nat),l.foldl (fun a b=>a*256+b) x=x*256 ^ l.length+be l:=by
    intro l
    induction l with
    | nil=>intro x;simp [be]
    | cons y l ih =>
      intro x
      have e:be (y :: l)=y*256 ^ l.length+be l:=by
       show l.foldl (fun a b=>a*256+b) (0*256+y)=_
       rw [Nat.zero_mul,Nat.zero_add];exact ih y
      rw [List.foldl_cons,ih,e,List.length_cons,Nat.pow_succ,Nat.add_mul,Nat.mul_comm (256 ^ l.length) 256,Nat.mul_assoc,Nat.add_assoc]
   have e:be (fx a (k+1))=(a / 256 ^ k % 256)*256 ^ (fx a k).length+be (fx a k):=by
    show (fx a k).foldl (fun a b=>a*256+b) (0*256+a / 256 ^ k % 256)=_
    rw [Nat.zero_mul,Nat.zero_add];exact hc _ _
   rw [e,fx_length,be_fx a k,Nat.mod_pow_succ,Nat.mul_comm,Nat.add_comm]
theorem fx_lt (a:Nat):∀ k,∀ x∈fx a k,x<256
 | 0=>by simp [fx]
 | k+1=>by
   intro x hx;rw [fx] at hx
   rcases List.mem_cons.1 hx with rfl|hx
   ·exact Nat.mod_lt _ (by omega)
   ·exact fx_lt a k x hx
theorem fxB_eq (a k:Nat) (hk:k≤8):fxB a (k:Int)=str (fx a k):=by unfold fxB;rw [if_pos (by omega),Int.toNat_natCast]
theorem fxB_size (a k:Nat) (hk:k≤8):(fxB a (k:Int)).size=k:=by rw [fxB_eq a k hk,str_size,fx_length]
theorem fix_put (a k:Nat) (hk:k≤8) (t:ByteArray):fixV (fxB a k++t) k=a % 256 ^ k∧fixT (fxB a k++t) k=t∧hasF (fxB a k++t) k=true:=by
 have hz:=fxB_size a k hk;have hh:hasF (fxB a k++t) k=true:=decide_eq_true (by rw [ByteArray.size_append];omega);unfold fixV fixT;rw [hh,if_pos rfl,if_pos rfl,Int.toNat_natCast];refine ⟨?_,?_,rfl⟩
 ·have e:nums (fxB a k)=fx a k:=by rw [fxB_eq a k hk,nums_str _ (fx_lt a k)]
  rw [nums_append,e,List.take_left' (fx_length a k),be_fx]
 ·have:=extract_right (fxB a k) t
  rw [hz] at this;exact this
end Vi
end Go.Proofs.YtpdbeijfchmlgaaGreat
namespace Go.Proofs.YtpdbeijfchmlgaaGreat
open Go.RowKit
namespace Crc
def nums (n:Nat) (x:Nat→Nat):List Int:=(List.range n).map fun j=>(x j:Int)
theorem nums_length (n:Nat) (x:Nat→Nat):(nums n x).length=n:=by simp [nums]
theorem nums_getD (n:Nat) (x:Nat→Nat) (i:Nat) (h:i<n):(nums n x).getD i 0=(x i:Int):=by simp [nums,List.getD,h]
theorem str_size (n:Nat) (x:Nat→Nat):(strOfNums (nums n x)).size=n:=by rw [strOfNums_size,nums_length]
def byteAt (s:ByteArray) (j:Nat):Nat:=(s.data.toList.getD j 0).toNat
theorem byteAt_lt (s:ByteArray) (j:Nat):byteAt s j<256:=UInt8.toNat_lt _
def turned (t:ByteArray) (p by_:Nat) (j:Nat):Nat:=if j=p then byteAt t p ^^^ by_ else byteAt t j
end Crc
def BRow (g n:Nat) (x:Nat→Nat) (w:World):Prop:=∀ j,j<n→w.cell? ⟨g,j,none⟩=some (.int .u8 (x j))∧w.frozen? ⟨g,j,none⟩=false
theorem BRow.cell {g n:Nat} {x:Nat→Nat} {w:World} (h:BRow g n x w) (j:Nat) (hj:j<n):w.cell? ⟨g,j,none⟩=some (.int .u8 (x j)):=(h j hj).1
theorem BRow.free {g n:Nat} {x:Nat→Nat} {w:World} (h:BRow g n x w) (j:Nat) (hj:j<n):w.frozen? ⟨g,j,none⟩=false:=(h j hj).2
theorem BRow.drew {g n:Nat} {x:Nat→Nat} {w:World} (h:BRow g n x w):BRow g n x w.drew:=h
theorem BRow.same {g n:Nat} {x y:Nat→Nat} {w:World} (h:BRow g n x w) (hxy:∀ j,j<n→y j=x j):BRow g n y w:=fun j hj=>by rw [hxy j hj];exact h j hj
theorem BRow.set {g n:Nat} {x y:Nat→Nat} {w:World} (h:BRow g n x w) (k:Nat) (v:Nat) (hy:∀ j,j<n→y j=if j=k then v else x j):BRow g n y (w.setCell ⟨g,k,none⟩ (.int .u8 (v:Int))):=by
 intro j hj;rw [World.frozen?_setCell,hy j hj];refine ⟨?_,(h j hj).2⟩
 by_cases e:j=k
 ·subst e;rw [if_pos rfl];exact World.cell?_setCell_same _ _ _ (h j hj).1
 ·rw [if_neg e,World.cell?_setCell_other _ _ _ _ (by intro hh;cases hh;exact e rfl)];exact (h j hj).1
theorem BRow.below {g n B:Nat} {x:Nat→Nat} {w w':World} (h:BRow g n x w) (hb:Below B w w') (hg:g<B):BRow g n x w':=fun j hj=>by
 rw [hb.cell hg,hb.frozen hg];exact h j hj
theorem BRow.conv (w:World) (s:ByteArray):BRow w.heap.size s.size (Crc.byteAt s) (Lib.bytesWorld w 5 s):=by
 intro j hj;refine ⟨Lib.bytesWorld_cell w 5 s j hj,?_⟩;have h:=Lib.bytesWorld_at_new w 5 s;have hz:s.size≤(Lib.bytesCells w 5 s).size:=by simp [Lib.bytesCells]
 simp only [World.frozen?,h]
 simp;omega
theorem below_conv (w:World) (s:ByteArray):Below w.heap.size w (Lib.bytesWorld w 5 s) :=
 Lib.below_freeze (((Below.refl _ w).drew).alloc (Nat.le_refl _) _) (p:=⟨w.heap.size,_,none⟩) (Nat.le_refl _) _
theorem BRow.str {g n:Nat} {x:Nat→Nat} {w:World} (h:BRow g n x w) (cap:Nat):(convert 62 9 (.slice (some ⟨g,0,none⟩) n cap)).run Tryz.prog w=.ok (.string (strOfNums (Crc.nums n x))) w :=
 run_convert_bytes_arg (P:=Tryz.prog) w 62 5 Tryz.underlying62 Tryz.underlying5 g 0 n cap (Crc.nums n x) (Crc.nums_length n x)
  (fun i hi=>by rw [Crc.nums_getD n x i hi,Nat.zero_add];exact h.cell i hi) 9 Tryz.underlying9
theorem bend_any (s:ByteArray) (at_:Int) (by_:Nat) (w:World) (hm:s.size≤140737488351232) (hat:-9223372036854775808≤at_∧at_≤9223372036854775807) (hby:by_<256) :
 Calls Tryz.prog 12 #[.string s,.int .i64 at_,.int .u8 by_] w fun e w'=>∃ t:ByteArray,e=.returned (.string t)∧t.size=s.size∧Below w.heap.size w w':=by
 by_cases h0:s.size=0
 ·have he:s=⟨#[]⟩:=ByteArray.ext (Array.eq_empty_of_size_eq_zero h0);subst he
  go_enter Tryz.func12,Tryz.ntmps12
  go_wp2;go_ret;exact ⟨_,rfl,rfl,Below.refl _ _⟩
 ·have hne:s.toList.isEmpty=false:=by
   rw [Lib.toList_data,List.isEmpty_eq_false_iff];intro hn;have h2:s.size=s.data.toList.length:=by simp
   rw [hn,List.length_nil] at h2;omega
  have hn0:0<s.size:=by omega
  have hcv:=fun (W:World) (t:ByteArray)=>Lib.run_convert_string_bytes (P:=Tryz.prog) W 9 62 5 t Tryz.underlying9 Tryz.underlying62 Tryz.underlying5
  obtain ⟨a,ha⟩:∃ a:Nat,(if at_<0 then -(at_+1) else at_)=(a:Int):=by
   split
   ·exact ⟨(-(at_+1)).toNat,by omega⟩
   ·exact ⟨at_.toNat,by omega⟩
  have ha2:(a:Int)≤9223372036854775807:=by split at ha<;>omega
  have HA:=zh ha;clear ha
  by_cases hneg:at_<0
  all_goals
   have ha:(if at_<0 then -(at_+1) else at_)=(a:Int):=HA.out
   first|rw [if_pos hneg] at ha|rw [if_neg hneg] at ha
   have HB:=zh ha;clear ha HA
   go_enter Tryz.func12,Tryz.ntmps12
   go_wp2
   try rw [HB.out]
   clear hcv;have hI:=BRow.conv w s;have hB:Below w.heap.size w (Lib.bytesWorld w 5 s):=below_conv w s;generalize Lib.bytesWorld w 5 s=w3 at *;generalize grownCap w s.size 0 5=cap at *;obtain ⟨p,hp1⟩:∃ p:Nat,p=a % s.size:=⟨_,rfl⟩;have hp:p<s.size:=by rw [hp1];exact Nat.mod_lt _ (by omega)
   have hp2:(a:Int) % (s.size:Int)=(p:Int):=by rw [hp1,Int.natCast_emod]
   clear hp1;have hc:=hI.cell p hp;have hf:=hI.free p hp;have hbx:=Crc.byteAt_lt s p;have hX:=zh (u8_xor_nat (Crc.byteAt s p) by_ hbx hby)
   go_region
   rw [hX.out];have hI4:=(hI.set (y:=Crc.turned s p by_) p _ (fun j hj=>by unfold Crc.turned;rfl)).drew;have hb1:=(hB.setCell (p:=⟨w.heap.size,p,none⟩) (Nat.le_refl _) (.int .u8 ((Crc.byteAt s p ^^^ by_:Nat):Int))).drew;clear hI hc hf hB;generalize (World.setCell w3 ⟨w.heap.size,p,none⟩ (.int .u8 ((Crc.byteAt s p ^^^ by_:Nat):Int))).drew=w1 at *;have hstr:=hI4.str cap;have hbz:=Crc.str_size s.size (Crc.turned s p by_);go_wp2;go_ret;exact ⟨_,rfl,hbz,hb1⟩
end Go.Proofs.YtpdbeijfchmlgaaGreat
