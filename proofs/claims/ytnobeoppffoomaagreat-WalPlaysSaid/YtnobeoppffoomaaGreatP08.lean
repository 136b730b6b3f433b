/-
  WalPlays: VFix VGet W WR.
  Conditions: named in each theorem.
-/
import Derived.Test.YtnobeoppffoomaaGreatP03
import Derived.Test.YtnobeoppffoomaaGreatP00
import Derived.Laws.BitsAllLaws
import Derived.RowKit
import Derived.Laws.BytesArg
import Derived.WalkKit
import Derived.WalkSpells
import Derived.WalkLawsBesides
import Derived.Lib.Hide
import Derived.Maps.AppendAt
import Derived.Deep.AppendLies
import Derived.Test.YtnobeoppffoomaaGreatP07
import Derived.Lib.OthersKept
import Derived.Lib.Builder
import Derived.Lib.AppendStr
import Derived.Lib.UnsafeStr
import Derived.Laws.Externs
import Derived.Shelf.RegionOpenPlain
import Derived.Test.YtnobeoppffoomaaGreatP06
import Derived.Test.YtnobeoppffoomaaGreatP04
import Derived.Test.YtnobeoppffoomaaGreatP0
set_option linter.unusedVariables false
set_option linter.unusedSimpArgs false
set_option maxHeartbeats 8000000
set_option maxRecDepth 100000
namespace Go.Proofs.YtnobeoppffoomaaGreat
open Go.RowKit
namespace Vi
end Vi
namespace Vi
def fx (a:Nat):Nat→List Nat
 | 0=>[]
 | k+1=>(a / 256 ^ k % 256) :: fx a k
def fxB (a:Nat) (k:Int):ByteArray:=if 0≤k∧k≤8 then str (fx a k.toNat) else ⟨#[]⟩
theorem fx_length (a:Nat):∀ k,(fx a k).length=k
 | 0=>rfl
 | k+1=>by rw [fx,List.length_cons,fx_length a k]
def rowF (a s k:Nat):List Nat:=List.replicate (s-k) 0++fx a k
theorem rowF_zero (a s:Nat):rowF a s 0=List.replicate s 0:=by simp [rowF,fx]
theorem rowF_full (a s:Nat):rowF a s s=fx a s:=by simp [rowF]
theorem rowF_set (a k j:Nat):(rowF a (k+1+j) k).set j (a / 256 ^ k % 256)=rowF a (k+1+j) (k+1):=by
 unfold rowF
 have e1:k+1+j-k=j+1:=by omega
 have e2:k+1+j-(k+1)=j:=by omega
 rw [e1,e2,List.replicate_succ',List.append_assoc,List.set_append_right _ _ (by simp)]
 simp [fx]
theorem cells_set (l:List Nat) (j x:Nat):(cells l).set j (Value.int .u8 (x:Int))=cells (l.set j x):=by
 unfold cells;rw [List.map_set]
theorem div_pow (a k:Nat):a / 256 ^ k / 256=a / 256 ^ (k+1):=by rw [Nat.div_div_eq_div_mul,Nat.pow_succ]
end Vi
theorem fixed_no (a:Nat) (s:Int) (w:World) (h:s<0∨8<s) :
 Calls Tryz.prog 125 #[.int .u64 a,.int .i64 s] w fun e w'=>e=.returned (.string (Vi.fxB a s))∧Below w.heap.size w w':=by
 have hz:Hid (Vi.fxB a s=⟨#[]⟩):=by show _=_;unfold Vi.fxB;rw [if_neg (by omega)]
 rcases h with h|h
 ·go_enter Tryz.func125,Tryz.ntmps125
  go_wp2
  go_ret
  exact ⟨by rw [hz.out];rfl,Below.refl _ _⟩
 ·have h0:¬ s<0:=by omega
  go_enter Tryz.func125,Tryz.ntmps125
  go_wp2
  go_ret
  exact ⟨by rw [hz.out];rfl,Below.refl _ _⟩
theorem fixed_yes (a s:Nat) (w:World) (hs:s≤8) :
 Calls Tryz.prog 125 #[.int .u64 a,.int .i64 s] w fun e w'=>e=.returned (.string (Vi.fxB a s))∧Below w.heap.size w w':=by
 obtain ⟨i0,hi,hz0,hz1,hz2⟩:=info_parts Tryz.info5
 go_enter Tryz.func125,Tryz.ntmps125
 go_wp2_with (at_make;refine wpList_make_full _ rfl _ _ 68 rfl w.heap.size 5 i0 (.int .u8 0) 1 Tryz.underlying68 hi hz0 hz1 .i64 .i64 _ _ s rfl rfl rfl rfl (by rw [hz2];omega) (by unfold maxLen;omega) (Nat.le_refl _) ?_;intro w0 hown0 hgrow0)
 have hr0:w0.ownsRow w.heap.size 5 1 (Value.slice (some ⟨w.heap.size,0,none⟩) s s) s (Vi.cells (Vi.rowF a s 0)):=by
  have e:(madeCells (Value.int IntKind.u8 0).cells (s*1)).toList=Vi.cells (Vi.rowF a s 0):=by
   rw [Vi.rowF_zero,Nat.mul_one]
   show (madeCells #[Value.int IntKind.u8 0] s).toList=_
   rw [toList_madeCells_one];simp [Vi.cells]
  rw [←e];exact hown0
 have hb0:Below w.heap.size w w0:=(Below.refl _ _).grown hgrow0 (Nat.le_refl _) (by simp)
 clear hown0 hgrow0
 go_loopw [0,16] (fun m c wr=>∃ k:Nat,k≤s∧m=.int .u64 ((a / 256 ^ k:Nat):Int)∧c=.int .i64 k∧wr.ownsRow w.heap.size 5 1 (Value.slice (some ⟨w.heap.size,0,none⟩) s s) s (Vi.cells (Vi.rowF a s k))∧Below w.heap.size w wr) (fun _ c _=>s-(Go.RowKit.intOf c).toNat)
 case atStart=>exact ⟨0,by omega,by simp,rfl,hr0,hb0⟩
 case round =>
  obtain ⟨k,hk,rfl,rfl,hr,hb⟩:=hrel
  have HD:=zh (Vi.div_pow a k)
  generalize hm:a / 256 ^ k=m at *
  have HM:=zh hm
  clear hm
  by_cases hlt:k<s
  ·obtain ⟨j,hj⟩:∃ j,j=s-1-k:=⟨_,rfl⟩
   have hji:(s:Int)-1-k=(j:Int):=by omega
   have hc:wr.cell? ⟨w.heap.size,j,none⟩=some (.int .u8 0):=by
    rw [hr.cellAt j (by omega)]
    have e:(Vi.cells (Vi.rowF a s k))[j]?=some (.int .u8 0):=by
     unfold Vi.cells Vi.rowF
     rw [List.getElem?_map,List.getElem?_append_left (by rw [List.length_replicate];omega),List.getElem?_replicate,if_pos (by omega)];rfl
    exact e
   have hf:=hr.frozenAt j
   have HJ:=zh hj
   clear hj
   go_wp2
   go_roundw
   case rel =>
    have hst:=hr.stored j (Value.int .u8 ((m % 256:Nat):Int))
    have es:s=k+1+j:=by have:=HJ.out;omega
    refine ⟨k+1,by omega,by rw [←HD.out,Int.natCast_ediv];rfl,by go_num,?_,hb.setCell (Nat.le_refl _) _⟩
    have e:Vi.cells (Vi.rowF a s (k+1))=(Vi.cells (Vi.rowF a s k)).set j (Value.int .u8 ((m % 256:Nat):Int)):=by
     rw [Vi.cells_set,es,←Vi.rowF_set,HM.out]
    rw [e]
    exact hst.1
   case measure=>simp [Go.RowKit.intOf];omega
  ·have hk':k=s:=by omega
   subst hk'
   have hcv:=str_of_own (by rw [Vi.rowF_full] at hr;exact hr)
   have HS:Hid (Vi.fxB a k=Vi.str (Vi.fx a k)):=by show _=_;unfold Vi.fxB;rw [if_pos (by omega),Int.toNat_natCast]
   go_wp2
   go_ret
   exact ⟨by rw [HS.out];rfl,hb⟩
theorem fixed_any (a:Nat) (s:Int) (w:World) :
 Calls Tryz.prog 125 #[.int .u64 a,.int .i64 s] w fun e w'=>e=.returned (.string (Vi.fxB a s))∧Below w.heap.size w w':=by
 by_cases h:0≤s∧s≤8
 ·obtain ⟨k,rfl⟩:=Int.eq_ofNat_of_zero_le h.1
  exact fixed_yes a k w (by omega)
 ·exact fixed_no a s w (by omega)
theorem rfixed_no (a:Nat) (s:Int) (w:World) (h:s<0∨8<s) :
 Calls Tryz.prog 116 #[.int .u64 a,.int .i64 s] w fun e w'=>e=.returned (.string (Vi.fxB a s))∧Below w.heap.size w w':=by
 have hz:Hid (Vi.fxB a s=⟨#[]⟩):=by show _=_;unfold Vi.fxB;rw [if_neg (by omega)]
 rcases h with h|h
 ·go_enter Tryz.func116,Tryz.ntmps116
  go_wp2
  go_ret
  exact ⟨by rw [hz.out];rfl,Below.refl _ _⟩
 ·have h0:¬ s<0:=by omega
  go_enter Tryz.func116,Tryz.ntmps116
  go_wp2
  go_ret
  exact ⟨by rw [hz.out];rfl,Below.refl _ _⟩
theorem rfixed_yes (a s:Nat) (w:World) (ha:a<18446744073709551616) (hs:s≤8) :
 Calls Tryz.prog 116 #[.int .u64 a,.int .i64 s] w fun e w'=>e=.returned (.string (Vi.fxB a s))∧Below w.heap.size w w':=by
 obtain ⟨i0,hi,hz0,hz1,hz2⟩:=info_parts Tryz.info5
 have HA:=zh ha
 clear ha
 go_enter Tryz.func116,Tryz.ntmps116
 go_wp2_with (at_make;refine wpList_make_full _ rfl _ _ 68 rfl w.heap.size 5 i0 (.int .u8 0) 1 Tryz.underlying68 hi hz0 hz1 .i64 .i64 _ _ s rfl rfl rfl rfl (by rw [hz2];omega) (by unfold maxLen;omega) (Nat.le_refl _) ?_;intro w0 hown0 hgrow0)
 have hr0:w0.ownsRow w.heap.size 5 1 (Value.slice (some ⟨w.heap.size,0,none⟩) s s) s (Vi.cells (Vi.rowF a s 0)):=by
  have e:(madeCells (Value.int IntKind.u8 0).cells (s*1)).toList=Vi.cells (Vi.rowF a s 0):=by
   rw [Vi.rowF_zero,Nat.mul_one]
   show (madeCells #[Value.int IntKind.u8 0] s).toList=_
   rw [toList_madeCells_one];simp [Vi.cells]
  rw [←e];exact hown0
 have hb0:Below w.heap.size w w0:=(Below.refl _ _).grown hgrow0 (Nat.le_refl _) (by simp)
 clear hown0 hgrow0
 go_loopw [0,6] (fun m c wr=>∃ k:Nat,k≤s∧m=.int .u64 ((a / 256 ^ k:Nat):Int)∧c=.int .i64 ((s:Int)-1-k)∧wr.ownsRow w.heap.size 5 1 (Value.slice (some ⟨w.heap.size,0,none⟩) s s) s (Vi.cells (Vi.rowF a s k))∧Below w.heap.size w wr) (fun _ c _=>(Go.RowKit.intOf c+1).toNat)
 case atStart=>exact ⟨0,by omega,by simp,by simp,hr0,hb0⟩
 case round =>
  obtain ⟨k,hk,rfl,rfl,hr,hb⟩:=hrel
  have HD:=zh (Vi.div_pow a k)
  have hmb:a / 256 ^ k≤a:=Nat.div_le_self _ _
  generalize hm:a / 256 ^ k=m at *
  have HM:=zh hm
  clear hm
  have hmi:(m:Int)≤18446744073709551615:=by have:=HA.out;omega
  clear hmb
  by_cases hlt:k<s
  ·obtain ⟨j,hj⟩:∃ j,j=s-1-k:=⟨_,rfl⟩
   have hji:(s:Int)-1-k=(j:Int):=by omega
   have hjs:(j:Int)<s:=by omega
   have hj8:(j:Int)≤7:=by omega
   have hc:wr.cell? ⟨w.heap.size,j,none⟩=some (.int .u8 0):=by
    rw [hr.cellAt j (by omega)]
    have e:(Vi.cells (Vi.rowF a s k))[j]?=some (.int .u8 0):=by
     unfold Vi.cells Vi.rowF
     rw [List.getElem?_map,List.getElem?_append_left (by rw [List.length_replicate];omega),List.getElem?_replicate,if_pos (by omega)];rfl
    exact e
   have hf:=hr.frozenAt j
   have HJ:=zh hj
   clear hj
   rw [hji]
   have HI:=zh hji
   clear hji
   go_wp2
   go_roundw
   case rel =>
    have hst:=hr.stored j (Value.int .u8 ((m % 256:Nat):Int))
    have es:s=k+1+j:=by have:=HJ.out;omega
    refine ⟨k+1,by omega,by rw [←HD.out,Int.natCast_ediv];rfl,by have h:=HI.out;congr 1;omega,?_,hb.setCell (Nat.le_refl _) _⟩
    have e:Vi.cells (Vi.rowF a s (k+1))=(Vi.cells (Vi.rowF a s k)).set j (Value.int .u8 ((m % 256:Nat):Int)):=by
     rw [Vi.cells_set,es,←Vi.rowF_set,HM.out]
    rw [e]
    exact hst.1
   case measure=>(simp [Go.RowKit.intOf];try omega)
  ·have hk':k=s:=by omega
   subst hk'
   have hcv:=str_of_own (by rw [Vi.rowF_full] at hr;exact hr)
   have HS:Hid (Vi.fxB a k=Vi.str (Vi.fx a k)):=by show _=_;unfold Vi.fxB;rw [if_pos (by omega),Int.toNat_natCast]
   have hn1:(k:Int)-1-k<0:=by omega
   go_wp2
   go_ret
   exact ⟨by rw [HS.out];rfl,hb⟩
theorem rfixed_any (a:Nat) (s:Int) (w:World) (ha:a<18446744073709551616) :
 Calls Tryz.prog 116 #[.int .u64 a,.int .i64 s] w fun e w'=>e=.returned (.string (Vi.fxB a s))∧Below w.heap.size w w':=by
 by_cases h:0≤s∧s≤8
 ·obtain ⟨k,rfl⟩:=Int.eq_ofNat_of_zero_le h.1
  exact rfixed_yes a k w ha (by omega)
 ·exact rfixed_no a s w (by omega)
end Go.Proofs.YtnobeoppffoomaaGreat
namespace Go.Proofs.YtnobeoppffoomaaGreat
open Go.RowKit
namespace Vi
end Vi
namespace Vi
def be (l:List Nat):Nat:=l.foldl (fun a b=>a*256+b) 0
theorem be_snoc (l:List Nat) (b:Nat):be (l++[b])=be l*256+b:=by unfold be;rw [List.foldl_append];rfl
theorem be_take (l:List Nat) (k:Nat) (hk:k<l.length):be (l.take (k+1))=be (l.take k)*256+l.getD k 0:=by
 rw [getD_take l k hk,be_snoc]
theorem be_take_lt (l:List Nat) (hl:∀ j,l.getD j 0<256):∀ k,be (l.take k)<256 ^ k
 | 0=>by simp [be]
 | k+1=>by
   have ih:=be_take_lt l hl k
   rw [Nat.pow_succ]
   rcases Nat.lt_or_ge k l.length with h|h
   ·rw [be_take l k h]
    have:=hl k
    omega
   ·rw [List.take_of_length_le (by omega)]
    rw [List.take_of_length_le (by omega)] at ih
    omega
theorem be_take_le (l:List Nat) (hl:∀ j,l.getD j 0<256) (k:Nat) (hk:k≤7):be (l.take k)<72057594037927936 :=
 Nat.lt_of_lt_of_le (be_take_lt l hl k) (Nat.le_trans (Nat.pow_le_pow_right (by omega) hk) (by decide))
def hasF (s:ByteArray) (n:Int):Bool:=decide (0≤n∧n≤8∧n≤s.size)
def fixV (s:ByteArray) (n:Int):Nat:=if hasF s n=true then be ((nums s).take n.toNat) else 0
def fixT (s:ByteArray) (n:Int):ByteArray:=if hasF s n=true then s.extract n.toNat s.size else ⟨#[]⟩
theorem byte8 (n b:Nat) (hn:n<72057594037927936) (hb:b<256) (X:Int) (hX:X=(b:Int)):bits BinOp.or IntKind.u64 (IntKind.u64.wrap ((n:Int)*256)) X=((n*256+b:Nat):Int):=by
 subst hX
 have h1:IntKind.u64.wrap ((n:Int)*256)=((2 ^ 8*n:Nat):Int):=by
  rw [IntWalk.u64_in _ (by omega),Int.natCast_mul]
  have:((2 ^ 8:Nat):Int)=256:=by decide
  rw [this];omega
 have hor:=Nat.two_pow_add_eq_or_of_lt (show b<2 ^ 8 from hb) n
 rw [h1,u64_or_nat (2 ^ 8*n) b (by omega) (by omega),←hor]
 congr 1;omega
end Vi
theorem fixedr_no (g:Nat) (s:ByteArray) (bad:Bool) (n:Int) (w:World) (h:Rd 225 g s bad w) (hn:n<0∨8<n∨s.size<n) :
 Calls Tryz.prog 157 #[rdp g,.int .i64 n] w fun e w'=>e=.returned (.int .u64 0)∧Rd 225 g ⟨#[]⟩ true w'∧w.grownBy w' (some g):=by
 have hL:=zh (left_any g _ bad w h)
 have hF:=zh (fail_any g _ bad w h)
 rcases (show n<0∨8<n∨(0≤n∧n≤8∧s.size<n) by omega) with hn|hn|⟨hn0,hn8,hn⟩
 ·unfold rdp at *
  go_enter Tryz.func157,Tryz.ntmps157
  go_wp2_with fail
  refine hF.out.mono ?_
  rintro e w1 ⟨rfl,h1,h2⟩
  go_wp2
  go_ret
  exact ⟨rfl,h1,h2⟩
 ·have hn0:¬ n<0:=by omega
  unfold rdp at *
  go_enter Tryz.func157,Tryz.ntmps157
  go_wp2_with fail
  refine hF.out.mono ?_
  rintro e w1 ⟨rfl,h1,h2⟩
  go_wp2
  go_ret
  exact ⟨rfl,h1,h2⟩
 ·have hn0':¬ n<0:=by omega
  have hn8':¬ 8<n:=by omega
  unfold rdp at *
  go_enter Tryz.func157,Tryz.ntmps157
  go_wp2_with fail
  refine hL.out.mono ?_
  rintro e w1 ⟨rfl,rfl⟩
  go_wp2_with fail
  refine hF.out.mono ?_
  rintro e w1 ⟨rfl,h1,h2⟩
  go_wp2
  go_ret
  exact ⟨rfl,h1,h2⟩
theorem fixedr_yes (g:Nat) (s:ByteArray) (bad:Bool) (n:Nat) (w:World) (h:Rd 225 g s bad w) (hm:s.size≤281474976710656) (hn:n≤8) (hns:n≤s.size) :
 Calls Tryz.prog 157 #[rdp g,.int .i64 n] w fun e w'=>e=.returned (.int .u64 (Vi.be ((Vi.nums s).take n)))∧Rd 225 g (s.extract n s.size) bad w'∧w.grownBy w' (some g):=by
 have hmf:∀ (fn:Fn) (first cap:Array Value) (w:World),(Instr.makeFunc fn first cap).run Tryz.prog w=.ok (.func fn first cap) w:=fun _ _ _ _=>rfl
 have hL:=zh (left_any g _ bad w h)
 have hl:=Vi.nums_length s
 have hn0:¬ ((n:Int)<0):=by omega
 have hn8:¬ ((8:Int)<n):=by omega
 have hns':decide (s.size<n)=false:=decide_eq_false (by omega)
 have HE:Hid (s.extract 0 s.size=s):=by show _=_;apply ByteArray.ext;simp
 unfold rdp at *
 go_enter Tryz.func157,Tryz.ntmps157
 go_wp2_with fail
 refine hL.out.mono ?_
 rintro e w1 ⟨rfl,rfl⟩
 go_wp2
 go_loopw [6,24] (fun v c wr=>∃ k:Nat,k≤n∧c=.int .i64 k∧v=.int .u64 ((Vi.be ((Vi.nums s).take k):Nat):Int)∧Rd 225 g (s.extract k s.size) bad wr∧w.grownBy wr (some g)) (fun _ c _=>n-(Go.RowKit.intOf c).toNat)
 case atStart=>exact ⟨0,by omega,rfl,rfl,by rw [HE.out];exact h,World.grownBy.refl _ _⟩
 case round =>
  obtain ⟨k,hk,rfl,rfl,hr,hb⟩:=hrel
  by_cases hlt:k<n
  ·have hN:=zh (next_some g _ bad wr hr (by rw [ByteArray.size_extract];omega) (by rw [ByteArray.size_extract];omega))
   have HH:=zh (Vi.hdB_extract s k (by omega))
   have HT:=zh (Vi.extract_extract s k (by omega))
   have HS:=zh (fun X hX=>Vi.byte8 _ _ (Vi.be_take_le (Vi.nums s) (Vi.nums_getD_lt s) k (by omega)) (Vi.nums_getD_lt s k) X hX)
   have HB:=zh (Vi.be_take (Vi.nums s) k (by omega))
   clear hmf hL hl
   unfold rdp at *
   generalize Vi.be ((Vi.nums s).take k)=v at *
   go_wp2_with fail
   refine hN.out.mono ?_
   rintro e w1 ⟨rfl,h1,h2⟩
   rw [HT.out] at h1
   rw [HH.out]
   generalize hg:(Vi.nums s).getD k 0=b at *
   have HG:=zh hg
   clear hg
   have hbt:b<256:=by rw [←HG.out];exact Vi.nums_getD_lt s k
   have HW:Hid (IntKind.u64.wrap (b:Int)=(b:Int)):=IntWalk.u64_in _ (by omega)
   clear hbt
   go_wp2
   go_roundw
   case rel =>
    rw [HS.out _ HW.out]
    exact ⟨k+1,by omega,by go_num,by rw [HB.out],h1,hb.trans h2⟩
   case measure=>simp [Go.RowKit.intOf];omega
  ·have hk':k=n:=by omega
   subst hk'
   clear hmf hL
   go_wp2
   go_ret
   exact ⟨rfl,hr,hb⟩
theorem fixedr_any (g:Nat) (s:ByteArray) (bad:Bool) (n:Int) (w:World) (h:Rd 225 g s bad w) (hm:s.size≤281474976710656) :
 Calls Tryz.prog 157 #[rdp g,.int .i64 n] w fun e w'=>e=.returned (.int .u64 (Vi.fixV s n))∧Rd 225 g (Vi.fixT s n) (bad||!Vi.hasF s n) w'∧w.grownBy w' (some g):=by
 by_cases hn:0≤n∧n≤8∧n≤s.size
 ·have e:Vi.hasF s n=true:=decide_eq_true hn
  unfold Vi.fixV Vi.fixT
  rw [if_pos e,if_pos e,e,Bool.not_true,Bool.or_false]
  obtain ⟨k,rfl⟩:=Int.eq_ofNat_of_zero_le hn.1
  exact fixedr_yes g s bad k w h hm (by omega) (by omega)
 ·have e:Vi.hasF s n=false:=decide_eq_false hn
  unfold Vi.fixV Vi.fixT
  rw [e,if_neg (by decide),if_neg (by decide),Bool.not_false,Bool.or_true]
  exact fixedr_no g s bad n w h (by omega)
namespace Vi
end Vi
theorem rfixedr_no (g:Nat) (s:ByteArray) (bad:Bool) (n:Int) (w:World) (h:Rd 145 g s bad w) (hn:n<0∨8<n) :
 Calls Tryz.prog 89 #[rdp g,.int .i64 n] w fun e w'=>e=.returned (.int .u64 0)∧Rd 145 g ⟨#[]⟩ true w'∧w.grownBy w' (some g):=by
 have hF:=zh (rfail_any g _ bad w h)
 rcases (show n<0∨8<n by omega) with hn|hn
 ·unfold rdp at *
  go_enter Tryz.func89,Tryz.ntmps89
  go_wp2_with fail
  refine hF.out.mono ?_
  rintro e w1 ⟨rfl,h1,h2⟩
  go_wp2
  go_ret
  exact ⟨rfl,h1,h2⟩
 ·have hn0:¬ n<0:=by omega
  unfold rdp at *
  go_enter Tryz.func89,Tryz.ntmps89
  go_wp2_with fail
  refine hF.out.mono ?_
  rintro e w1 ⟨rfl,h1,h2⟩
  go_wp2
  go_ret
  exact ⟨rfl,h1,h2⟩
theorem rfixedr_yes (g:Nat) (s:ByteArray) (bad:Bool) (n:Nat) (w:World) (h:Rd 145 g s bad w) (hs:Vi.Sane s bad) (hm:s.size≤281474976710656) (hn:n≤8) :
 Calls Tryz.prog 89 #[rdp g,.int .i64 n] w fun e w'=>e=.returned (.int .u64 (Vi.be (Vi.nums (Vi.bytV s n))))∧Rd 145 g (Vi.bytT s n) (bad||!Vi.hasB s n) w'∧w.grownBy w' (some g):=by
 have hB:=zh (rbytes_any g s bad n w h hs hm)
 have hsz:(Vi.bytV s n).size≤8:=by
  unfold Vi.bytV
  split
  ·rw [ByteArray.size_extract];omega
  ·exact Nat.zero_le _
 have hl:=Vi.nums_length (Vi.bytV s n)
 generalize Vi.bytV s n=t at *
 have hn0:¬ ((n:Int)<0):=by omega
 have hn8:¬ ((8:Int)<n):=by omega
 unfold rdp at *
 go_enter Tryz.func89,Tryz.ntmps89
 go_wp2_with fail
 refine hB.out.mono ?_
 rintro e w1 ⟨rfl,h1,h2⟩
 clear hB
 go_wp2
 go_loop [6,7] (fun v c=>∃ k:Nat,k≤t.size∧c=.int .i64 k∧v=.int .u64 ((Vi.be ((Vi.nums t).take k):Nat):Int)) (fun _ c=>t.size-(Go.RowKit.intOf c).toNat)
 case atStart=>exact ⟨0,by omega,rfl,rfl⟩
 case round =>
  obtain ⟨k,hk,rfl,rfl⟩:=hrel
  by_cases hlt:k<t.size
  ·have he:t[k].toNat=(Vi.nums t).getD k 0:=by
    unfold Vi.nums
    rw [List.getD_eq_getElem?_getD,List.getElem?_map,List.getElem?_eq_getElem (by simpa using hlt)];rfl
   have hbt:=Vi.nums_getD_lt t k
   have hvt:=Vi.be_take_le (Vi.nums t) (Vi.nums_getD_lt t) k (by omega)
   have HB:=zh (Vi.be_take (Vi.nums t) k (by omega))
   generalize Vi.be ((Vi.nums t).take k)=v at *
   generalize (Vi.nums t).getD k 0=b at *
   have hv1:(v:Int)≤72057594037927935:=by omega
   clear hvt
   have hW:IntKind.u64.wrap (b:Int)=(b:Int):=IntWalk.u64_in _ (by omega)
   have HW2:Hid (IntKind.u64.wrap ((v:Int)*256)=(v:Int)*256):=IntWalk.u64_in _ (by omega)
   have HW3:Hid (IntKind.u64.wrap ((v:Int)*256+b)=(v:Int)*256+b):=IntWalk.u64_in _ (by omega)
   go_wp2
   go_round
   case rel =>
    exact ⟨k+1,by omega,by go_num,by rw [HB.out];first|rfl|(push_cast;rfl)⟩
   case measure=>simp [Go.RowKit.intOf];omega
  ·have hk':k=t.size:=by omega
   subst hk'
   have HT:Hid ((Vi.nums t).take t.size=Vi.nums t):=by show _=_;rw [List.take_of_length_le (by omega)]
   go_wp2
   go_ret
   rw [HT.out]
   exact ⟨rfl,h1,h2⟩
theorem rfixedr_any (g:Nat) (s:ByteArray) (bad:Bool) (n:Int) (w:World) (h:Rd 145 g s bad w) (hs:Vi.Sane s bad) (hm:s.size≤281474976710656) :
 Calls Tryz.prog 89 #[rdp g,.int .i64 n] w fun e w'=>e=.returned (.int .u64 (Vi.fixV s n))∧Rd 145 g (Vi.fixT s n) (bad||!Vi.hasF s n) w'∧w.grownBy w' (some g):=by
 by_cases hn:0≤n∧n≤8
 ·obtain ⟨k,rfl⟩:=Int.eq_ofNat_of_zero_le hn.1
  have hc:=rfixedr_yes g s bad k w h hs hm (by omega)
  by_cases hks:k≤s.size
  ·have e1:Vi.hasF s k=true:=decide_eq_true (by omega)
   have e2:Vi.hasB s k=true:=decide_eq_true (by omega)
   unfold Vi.fixV Vi.fixT
   unfold Vi.bytV Vi.bytT at hc
   rw [if_pos e2,if_pos e2,e2,Vi.nums_extract,List.drop_zero,Nat.sub_zero] at hc
   rw [if_pos e1,if_pos e1,e1]
   exact hc
  ·have e1:Vi.hasF s k=false:=decide_eq_false (by omega)
   have e2:Vi.hasB s k=false:=decide_eq_false (by omega)
   unfold Vi.fixV Vi.fixT
   unfold Vi.bytV Vi.bytT at hc
   rw [e2,if_neg (by decide),if_neg (by decide)] at hc
   rw [e1,if_neg (by decide),if_neg (by decide)]
   exact hc
 ·have e:Vi.hasF s n=false:=decide_eq_false (by omega)
  unfold Vi.fixV Vi.fixT
  rw [e,if_neg (by decide),if_neg (by decide),Bool.not_false,Bool.or_true]
  exact rfixedr_no g s bad n w h (by omega)
theorem Vi.sane_fix (s:ByteArray) (bad:Bool) (n:Int) (h:Vi.Sane s bad):Vi.Sane (Vi.fixT s n) (bad||!Vi.hasF s n):=by
 intro hb
 unfold Vi.fixT
 cases ho:Vi.hasF s n
 ·rfl
 ·rw [ho] at hb
  have:=h (by simpa using hb)
  subst this
  apply ByteArray.ext;simp
namespace Vi
theorem be_fx (a:Nat):∀ k,be (fx a k)=a % 256 ^ k
 | 0=>by simp [fx,be,Nat.mod_one]
 | k+1=>by
   have hc:∀ (l:List Nat) (x:Nat),l.foldl (fun a b=>a*256+b) x=x*256 ^ l.length+be l:=by
    intro l
    induction l with
    | nil=>intro x;simp [be]
    | cons y l ih =>
      intro x
      have e:be (y :: l)=y*256 ^ l.length+be l:=by
       show l.foldl (fun a b=>a*256+b) (0*256+y)=_
       rw [Nat.zero_mul,Nat.zero_add];exact ih y
      rw [List.foldl_cons,ih,e,List.length_cons,Nat.pow_succ,Nat.add_mul,Nat.mul_comm (256 ^ l.length) 256,Nat.mul_assoc,Nat.add_assoc]
   have e:be (fx a (k+1))=(a / 256 ^ k % 256)*256 ^ (fx a k).length+be (fx a k):=by
    show (fx a k).foldl (fun a b=>a*256+b) (0*256+a / 256 ^ k % 256)=_
    rw [Nat.zero_mul,Nat.zero_add];exact hc _ _
   rw [e,fx_length,be_fx a k,Nat.mod_pow_succ,Nat.mul_comm,Nat.add_comm]
theorem fx_lt (a:Nat):∀ k,∀ x∈fx a k,x<256
 | 0=>by simp [fx]
 | k+1=>by
   intro x hx
   rw [fx] at hx
   rcases List.mem_cons.1 hx with rfl|hx
   ·exact Nat.mod_lt _ (by omega)
   ·exact fx_lt a k x hx
theorem fxB_eq (a k:Nat) (hk:k≤8):fxB a (k:Int)=str (fx a k):=by unfold fxB;rw [if_pos (by omega),Int.toNat_natCast]
theorem fxB_size (a k:Nat) (hk:k≤8):(fxB a (k:Int)).size=k:=by rw [fxB_eq a k hk,str_size,fx_length]
theorem fix_put (a k:Nat) (hk:k≤8) (t:ByteArray):fixV (fxB a k++t) k=a % 256 ^ k∧fixT (fxB a k++t) k=t∧hasF (fxB a k++t) k=true:=by
 have hz:=fxB_size a k hk
 have hh:hasF (fxB a k++t) k=true:=decide_eq_true (by rw [ByteArray.size_append];omega)
 unfold fixV fixT
 rw [hh,if_pos rfl,if_pos rfl,Int.toNat_natCast]
 refine ⟨?_,?_,rfl⟩
 ·have e:nums (fxB a k)=fx a k:=by rw [fxB_eq a k hk,nums_str _ (fx_lt a k)]
  rw [nums_append,e,List.take_left' (fx_length a k),be_fx]
 ·have:=extract_right (fxB a k) t
  rw [hz] at this
  exact this
end Vi
end Go.Proofs.YtnobeoppffoomaaGreat
namespace Go.Proofs.YtnobeoppffoomaaGreat
open Go.RowKit
theorem wsize64:(Tryz.prog.info? 81).map (·.size)=some 2:=by kernel_rfl
theorem wlies:liesAt Tryz.prog Tryz.prog.depth 158 (2 / Tryz.prog.cellsOf 158) 0 81 1=true:=by kernel_rfl
theorem wcells5:Tryz.prog.cellsOf 5=1:=by kernel_rfl
theorem wcheck_used (b:Nat) (w:World) (h0:w.cell? ⟨b,0,none⟩=some (.pointer (some ⟨b,0,none⟩))) :
 Calls Tryz.prog 80 #[.pointer (some ⟨b,0,none⟩)] w fun e w'=>e=.returned (.tuple #[])∧w'=w:=by
 obtain ⟨j,hj,_⟩:=Option.map_eq_some_iff.1 wsize64
 go_enter Tryz.func80,Tryz.ntmps80
 go_wp2
 rw [Lib.run_neq_ptr_same w _ Tryz.underlying79 hj]
 go_wp2
 go_end0
 exact ⟨rfl,rfl⟩
theorem wcheck_fresh (b:Nat) (w:World) (h0:w.cell? ⟨b,0,none⟩=some (.pointer none)) (hsh:w.shape? b=some (158,2)) (hfz:w.frozen? ⟨b,0,none⟩=false) :
 Calls Tryz.prog 80 #[.pointer (some ⟨b,0,none⟩)] w fun e w'=>e=.returned (.tuple #[])∧w'=w.setCell ⟨b,0,none⟩ (.pointer (some ⟨b,0,none⟩)):=by
 obtain ⟨j,hj,hjs⟩:=Option.map_eq_some_iff.1 wsize64
 go_enter Tryz.func80,Tryz.ntmps80
 go_wp2
 rw [Lib.run_to_unsafe w ⟨b,0,none⟩ Tryz.underlying79 Tryz.underlying163 hj (by rw [hjs];decide) hsh (Nat.zero_lt_succ 1)]
 simp only [Result.andThen]
 rw [Oper.upon_value]
 go_wp2
 rw [run_callFunc_extern Tryz.func109 (by kernel_rfl) (by kernel_rfl) (by kernel_rfl) (e:=Extern.AbiNoEscape.same) (by kernel_rfl)]
 rw [Lib.run_noEscape]
 simp only [Result.andThen]
 rw [Oper.upon_value]
 go_wp2
 rw [Lib.run_from_unsafe w ⟨b,0,none⟩ Tryz.underlying163 Tryz.underlying79 hj hsh wlies]
 simp only [Result.andThen]
 rw [Oper.upon_value]
 go_wp2
 go_end0
 exact ⟨rfl,rfl⟩
theorem wcheck (B b:Nat) (bs:List Value) (w:World) (h:Lib.IsBuilder 158 5 B b bs w) :
 Calls Tryz.prog 80 #[.pointer (some ⟨b,0,none⟩)] w fun e w'=>e=.returned (.tuple #[])∧Lib.BuilderAt 158 5 B b (.pointer (some ⟨b,0,none⟩)) bs w'∧Below B w w'∧Lib.OthersKept 5 (some b) w w':=by
 rcases h with h|h
 ·refine (wcheck_fresh b w h.cell0 h.shape h.frozen0).mono ?_
  rintro e w' ⟨rfl,rfl⟩
  exact ⟨rfl,h.used _,(Below.refl B w).setCell (p:=⟨b,0,none⟩) h.1 _,(Lib.OthersKept.refl _ _ w).setCell ⟨b,0,none⟩ rfl _⟩
 ·refine (wcheck_used b w h.cell0).mono ?_
  rintro e w' ⟨rfl,rfl⟩
  exact ⟨rfl,h,Below.refl B _,Lib.OthersKept.refl _ _ _⟩
def Wt (B b:Nat) (x:ByteArray) (w:World):Prop:=Lib.IsBuilder 158 5 B b (Lib.strCells x) w
theorem strCells_app (x s:ByteArray):Lib.strCells x++Lib.strCells s=Lib.strCells (x++s):=by
 unfold Lib.strCells
 simp
theorem wwrite (B b:Nat) (x s:ByteArray) (w:World) (h:Wt B b x w) (hlen:x.size+s.size≤140737488355328) (hBw:B≤w.heap.size) :
 Calls Tryz.prog 37 #[.pointer (some ⟨b,0,none⟩),.string s] w fun e w'=>e=.returned (.tuple #[.int .i64 s.size,.nilIface])∧Wt B b (x++s) w'∧Below B w w'∧Lib.OthersKept 5 (some b) w w':=by
 obtain ⟨i0,hi,hz0,hz1,hz2⟩:=info_parts Tryz.info5
 have hck:=zh (wcheck B b _ w h)
 clear h
 have hlx:=Lib.strCells_length x
 go_enter Tryz.func37,Tryz.ntmps37
 go_wp2_with (go_at_call 80;refine hck.out.mono ?_)
 rintro e w1 ⟨rfl,h1,hb1,ho1⟩
 obtain ⟨hB,v,hbk,hown,hne⟩:=h1
 have c0:w1.cell? ⟨b,0,none⟩=some (.pointer (some ⟨b,0,none⟩)):=by rw [Lib.cell_of_heap hbk];rfl
 have c1:w1.cell? ⟨b,1,none⟩=some v:=by rw [Lib.cell_of_heap hbk];rfl
 go_wp2_with (at_builtin;refine Lib.wpList_append_own_string _ rfl _ _ 68 9 rfl B 5 i0 Tryz.underlying68 Tryz.underlying9 hi hz0 hz1 hz2 _ _ _ rfl hown s rfl ?c3 ?c4 ?c5 ?_)
 case c3=>unfold maxLen;omega
 case c4=>omega
 case c5=>have:=hb1.size;omega
 intro v' w2 hown' hgrow _
 have hlt:b<w1.heap.size:=(zgx hbk)
 have hb2:w2.heap[b]?=some (.cells #[.pointer (some ⟨b,0,none⟩),v] 158 (0,0)):=by
  rw [hgrow.block b hlt (fun e=>hne e.symm)]
  exact hbk
 have d0:w2.cell? ⟨b,0,none⟩=some (.pointer (some ⟨b,0,none⟩)):=by rw [Lib.cell_of_heap hb2];rfl
 have d1:w2.cell? ⟨b,1,none⟩=some v:=by rw [Lib.cell_of_heap hb2];rfl
 have f1:w2.frozen? ⟨b,1,none⟩=false:=Lib.frozen_of_heap hb2 1
 obtain ⟨ao,n',cap,rfl⟩:∃ ao n' cap,v'=.slice ao n' cap:=by
  rcases hown'.2 with ⟨hv,_⟩|⟨g,cap,cur,hv,_⟩
  ·exact ⟨_,_,_,hv⟩
  ·exact ⟨_,_,_,hv⟩
 go_wp2
 go_ret2
 refine ⟨rfl,?_,?_,?_⟩
 ·refine .inr ?_
  rw [←strCells_app]
  exact Lib.BuilderAt.put (T:=158) (e:=5) hB hb2 (bs':=Lib.strCells x++Lib.strCells s) (by simpa [Lib.strCells_length] using hown') (by decide)
 ·exact (hb1.grown hgrow (by have:=hb1.size;omega) (fun k hk=>(hown.lt k hk).1)).setCell (p:=⟨b,1,none⟩) hB _
 ·refine (ho1.trans ?_:Lib.OthersKept 5 (some b) w w2).setCell ⟨b,1,none⟩ rfl _
  refine (Lib.OthersKept.refl 5 (some b) w1).grown hgrow fun g hg=>?_
  rcases hown.2 with ⟨hv,_⟩|⟨g',cap',cur,hv,_,hg',_⟩
  ·rw [hv] at hg;simp [Value.ownBlock] at hg
  ·rw [hv] at hg
   simp only [Value.ownBlock,Option.some.injEq] at hg
   subst hg
   exact ⟨cur,_,hg'⟩
end Go.Proofs.YtnobeoppffoomaaGreat
namespace Go.Proofs.YtnobeoppffoomaaGreat
open Go.RowKit
open Dk
def padv (v:Int) (s:ByteArray):ByteArray:=s++zz (bgn v s.size-s.size)
theorem padv_size (v:Int) (s:ByteArray):(padv v s).size=bgn v s.size:=by
 unfold padv
 rw [ByteArray.size_append,zz_size]
 have:=bgn_le v s.size
 omega
def rcA (v:Int) (S:En→ByteArray) (es:List En):ByteArray:=es.foldl (fun s e=>padv v (s++S e)) ⟨#[]⟩
theorem rcA_snoc (v:Int) (S:En→ByteArray) (es:List En) (e:En):rcA v S (es++[e])=padv v (rcA v S es++S e):=by
 unfold rcA;rw [List.foldl_append];rfl
theorem rcA_le (v:Int) (S:En→ByteArray) (M:Nat) (es:List En) (h:∀ e∈es,(S e).size≤M):(rcA v S es).size≤es.length*(M+63):=by
 have key:∀ (es:List En) (s:ByteArray),(∀ e∈es,(S e).size≤M)→(es.foldl (fun s e=>padv v (s++S e)) s).size≤s.size+es.length*(M+63):=by
  intro es
  induction es with
  | nil=>intro s _;simp
  | cons a l ih =>
    intro s h
    have h1:=ih (padv v (s++S a)) fun e he=>h e (List.mem_cons_of_mem _ he)
    have h2:=h a (by simp)
    have h3:=bgn_lt v (s++S a).size
    rw [padv_size] at h1
    rw [ByteArray.size_append] at h1 h3
    rw [List.foldl_cons,List.length_cons,Nat.succ_mul]
    omega
 have:=key es ⟨#[]⟩ h
 have e:(⟨#[]⟩:ByteArray).size=0:=rfl
 rw [e,Nat.zero_add] at this
 exact this
theorem take_snoc {es:List En} {k:Nat} {e:En} (h:es[k]?=some e):es.take (k+1)=es.take k++[e]:=by
 rw [List.take_add_one,h]
 rfl
theorem Ents.cs {B:Nat} {A:Option Addr} {n:Nat} {es:List En} {w:World} (h:Ents B A n es w) {k:Nat} {e:En} (he:es[k]?=some e) :
 ∃ a,A=some a∧a.block<B∧w.cell? (a.add (k*11))=some (.int .u64 e.term)∧w.cell? ⟨(a.add (k*11)).block,(a.add (k*11)).off+1,none⟩=some (.int .u64 e.index)∧w.cell? ⟨(a.add (k*11)).block,(a.add (k*11)).off+2,none⟩=some (.int .i64 e.kind)
  ∧ w.cell? ⟨(a.add (k*11)).block,(a.add (k*11)).off+3,none⟩=some (.int .u64 e.client)∧w.cell? ⟨(a.add (k*11)).block,(a.add (k*11)).off+4,none⟩=some (.int .u64 e.seq)∧w.cell? ⟨(a.add (k*11)).block,(a.add (k*11)).off+5,none⟩=some (.int .u64 e.block)
  ∧ w.cell? ⟨(a.add (k*11)).block,(a.add (k*11)).off+6,none⟩=some (.int .u64 e.many)∧w.cell? ⟨(a.add (k*11)).block,(a.add (k*11)).off+7,none⟩=some (.int .i64 e.node)∧w.cell? ⟨(a.add (k*11)).block,(a.add (k*11)).off+8,none⟩=some (.int .i64 e.level)
  ∧ w.cell? ⟨(a.add (k*11)).block,(a.add (k*11)).off+9,none⟩=some (.string e.data)∧w.cell? ⟨(a.add (k*11)).block,(a.add (k*11)).off+10,none⟩=some (.string e.old):=by
 obtain ⟨a,hA,hB,hc⟩:=h.at_ k e he
 exact ⟨a,hA,hB,hc 0 (by omega),hc 1 (by omega),hc 2 (by omega),hc 3 (by omega),hc 4 (by omega),hc 5 (by omega),hc 6 (by omega),hc 7 (by omega),hc 8 (by omega),hc 9 (by omega),hc 10 (by omega)⟩
def Sb (B b:Nat) (s:ByteArray) (w:World):Prop:=Lib.IsBuilder 81 5 B b (Lib.strCells s) w
theorem wstr_any (B b:Nat) (x s:ByteArray) (w:World) (h:Sb B b x w) (hlen:x.size+s.size≤140737488355328) (hBw:B≤w.heap.size) :
 Calls Tryz.prog 37 #[.pointer (some ⟨b,0,none⟩),.string s] w fun e w'=>e=.returned (.tuple #[.int .i64 s.size,.nilIface])∧Sb B b (x++s) w'∧Below B w w':=by
 refine (Tryz.Builder_WriteString B b _ s w h (by rw [Lib.strCells_length];exact hlen) hBw).mono ?_
 rintro e w' ⟨rfl,h1,h2⟩
 refine ⟨rfl,.inr ?_,h2⟩
 rw [←strCells_app]
 exact h1
theorem blen_any (B b:Nat) (x:ByteArray) (w:World) (h:Sb B b x w) :
 Calls Tryz.prog 40 #[.pointer (some ⟨b,0,none⟩)] w fun e w'=>e=.returned (.int .i64 x.size)∧w=w':=by
 refine (Tryz.Builder_Len B b _ w h).mono ?_
 rintro e w' ⟨rfl,h1⟩
 exact ⟨by rw [Lib.strCells_length],h1.symm⟩
theorem bstr_any (B b:Nat) (x:ByteArray) (w:World) (h:Sb B b x w) (hBw:B≤w.heap.size) :
 Calls Tryz.prog 41 #[.pointer (some ⟨b,0,none⟩)] w fun e w'=>e=.returned (.string x)∧Below B w w':=by
 have h1:=Tryz.Builder_String_any B b x.data.toList w (by rw [←show Lib.strCells x=Lib.byteCells x.data.toList from rfl];exact h) hBw
 exact h1
theorem Sb.below {B b:Nat} {s:ByteArray} {w w':World} (h:Sb B b s w) (hb:Below w.heap.size w w'):Sb B b s w':=isBuilder_below h hb
def Puts (F:FuncId) (v:Int) (S:En→ByteArray) (O:En→Bool) (es:List En):Prop :=
 ∀ e∈es,∀ W,Calls Tryz.prog F #[.int .i64 v,ev e] W fun q w'=>q=.returned (.tuple #[.string (S e),.bool (O e)])∧Below W.heap.size W w'
def rcS (v:Int) (S:En→ByteArray) (O:En→Bool) (es:List En):ByteArray:=if knB v&&es.all O then rcA v S es else ⟨#[]⟩
def rcO (v:Int) (O:En→Bool) (es:List En):Bool:=knB v&&es.all O
theorem records_any (v:Int) (S:En→ByteArray) (O:En→Bool) (A:Option Addr) (n c:Nat) (es:List En) (w:World) (hE:Ents w.heap.size A n es w) (hn:n≤64)
 (hS:∀ e∈es,(S e).size≤2097152) (hP:Puts 36 v S O es) :
 Calls Tryz.prog 12 #[.int .i64 v,.slice A n c] w fun q w'=>q=.returned (.tuple #[.string (rcS v S O es),.bool (rcO v O es)])∧Below w.heap.size w w':=by
 have HE:=zh hE
 have HS:=zh hS
 have HP:=zh hP
 clear hE hS hP
 have KK:=zh (known_any v)
 cases hv:knB v with
 | false =>
   have hT1:Hid (rcS v S O es=⟨#[]⟩):=by show _=_;unfold rcS;rw [hv];rfl
   have hT2:Hid (rcO v O es=false):=by show _=_;unfold rcO;rw [hv];rfl
   go_enter Tryz.func12,Tryz.ntmps12
   go_wp2_with (go_at_call 35;(with_reducible refine (KK.out _).mono ?_);rintro q w' ⟨rfl,rfl⟩)
   go_ret2
   exact ⟨by rw [hT1.out,hT2.out];rfl,Below.refl _ _⟩
 | true =>
   have hT1:Hid (rcS v S O es=if es.all O then rcA v S es else ⟨#[]⟩):=by show _=_;unfold rcS;rw [hv];rfl
   have hT2:Hid (rcO v O es=es.all O):=by show _=_;unfold rcO;rw [hv];rfl
   go_enter Tryz.func12,Tryz.ntmps12
   go_wp2_with (go_at_call 35;(with_reducible refine (KK.out _).mono ?_);rintro q w' ⟨rfl,rfl⟩)
   go_wp2
   clear hv
   obtain ⟨g,hg⟩:∃ g,g=w.heap.size:=⟨_,rfl⟩
   have hb0:Below w.heap.size w (w.alloc (Obj.cells #[.pointer none,.slice none 0 0] 81)):=(Below.refl _ _).alloc (Nat.le_refl _) _
   have hs0:Sb g g ⟨#[]⟩ (w.alloc (Obj.cells #[.pointer none,.slice none 0 0] 81)):=by rw [hg];exact Lib.fresh_isBuilder 81 5 w
   have HB0:=zh hb0
   have HS0:=zh hs0
   clear hb0 hs0
   rw [←hg]
   have HG:=zh hg
   clear hg
   go_loopw [16] (fun i wr=>∃ k:Nat,k≤n∧i=.int .i64 k∧Hid ((es.take k).all O=true)∧Sb g g (rcA v S (es.take k)) wr∧Below w.heap.size w wr) (fun i _=>n-(Go.RowKit.intOf i).toNat)
   case atStart=>exact ⟨0,Nat.zero_le _,rfl,rfl,HS0.out,HB0.out⟩
   case round =>
    obtain ⟨k,hk,rfl,hall,hsb,hb⟩:=hrel
    by_cases hlt:k<n
    ·obtain ⟨e,he⟩:∃ e,es[k]?=some e:=⟨_,List.getElem?_eq_getElem (by rw [HE.out.len];exact hlt)⟩
     obtain ⟨a,hA,hB,d0,d1,d2,d3,d4,d5,d6,d7,d8,d9,d10⟩:=(HE.out.below hb).cs he
     have hmem:e∈es:=List.mem_of_getElem? he
     have K:=zh (HP.out e hmem)
     have hsz:(S e).size≤2097152:=HS.out e hmem
     have htk:=take_snoc he
     have hra:(rcA v S (es.take k)).size≤k*(2097152+63):=by
      have h1:=rcA_le v S 2097152 (es.take k) fun e he=>HS.out e (List.mem_of_mem_take he)
      rw [List.length_take] at h1
      exact Nat.le_trans h1 (Nat.mul_le_mul_right _ (Nat.min_le_left _ _))
     have hall1:Hid ((es.take (k+1)).all O=((es.take k).all O&&O e)):=by show _=_;rw [htk,List.all_append];simp
     have hrc1:Hid (rcA v S (es.take (k+1))=padv v (rcA v S (es.take k)++S e)):=by show _=_;rw [htk,rcA_snoc]
     obtain ⟨r,hr⟩:∃ r,r=rcA v S (es.take k):=⟨_,rfl⟩
     rw [←hr] at hsb hra hrc1
     have hrs:r.size≤134217728:=by
      have:k*(2097152+63)≤63*(2097152+63):=Nat.mul_le_mul_right _ (by omega)
      omega
     have HSB:=zh hsb
     have HB:=zh hb
     have HEE:=zh he
     clear hsb hb he hr hra htk hmem
     rw [hA]
     clear hA
     cases ho:O e with
     | false =>
       have hF:Hid (es.all O=false):=by
        show _=_
        rw [List.all_eq_false]
        exact ⟨e,List.mem_of_getElem? HEE.out,by rw [ho];simp⟩
       rw [ho] at K
       go_wp2_with (go_at_call 36;(with_reducible refine (K.out _).mono ?_);rintro q w1 ⟨rfl,hb1⟩)
       go_ret2
       exact ⟨by rw [hT1.out,hT2.out,hF.out];rfl,(HB.out.alloc HB.out.size _).trans (hb1.mono (HB.out.alloc HB.out.size _).size)⟩
     | true =>
       rw [ho] at K
       have Q0:Sb g g r (wr.alloc (.cells (ec e) 28)):=HSB.out.below ((Below.refl _ _).alloc (Nat.le_refl _) _)
       have S0:w.heap.size≤(wr.alloc (.cells (ec e) 28)).heap.size:=(HB.out.alloc HB.out.size _).size
       have B0:Below w.heap.size w (wr.alloc (.cells (ec e) 28)):=HB.out.alloc HB.out.size _
       have hgg:g≤w.heap.size:=by rw [HG.out];exact Nat.le_refl _
       have hgb:∀ {w2 w3:World},Below g w2 w3→Below w.heap.size w2 w3:=by rw [HG.out];exact fun h=>h
       obtain ⟨R,hR⟩:∃ R,R=r++S e:=⟨_,rfl⟩
       have hRs:R.size=r.size+(S e).size:=by rw [hR,ByteArray.size_append]
       rw [←hR] at hrc1
       obtain ⟨m,hm⟩:∃ m,m=bgn v R.size-R.size:=⟨_,rfl⟩
       have hm63:m≤63:=by have:=bgn_lt v R.size;omega
       have hmi:(bgn v R.size:Int)-(R.size:Int)=(m:Int):=by have:=bgn_le v R.size;omega
       have hpad:Hid (R++zz m=rcA v S (es.take (k+1))):=by show _=_;rw [hrc1.out,hm];rfl
       have hlz:R.size+(zz m).size≤140737488355328:=by rw [zz_size];omega
       have hlr:r.size+(S e).size≤140737488355328:=by omega
       have hlm:R.size≤4611686018427387904:=by omega
       have hmz:m≤140737488355328:=by omega
       have hmax:bgn v R.size≤4611686018427387904:=by have:=bgn_lt v R.size;omega
       have HR:=zh hR
       clear hm hR hRs
       go_wp2_with (first
        | (go_at_call 36;(with_reducible refine (K.out _).mono ?_);rintro q w1 ⟨rfl,hb1⟩;have Q1:=Q0.below hb1;have B1:=B0.trans (hb1.mono S0);have hg1:g≤w1.heap.size:=Nat.le_trans hgg B1.size;clear Q0 hb1)
        | (go_at_call 37;(with_reducible refine (wstr_any g g r (S e) w1 Q1 hlr hg1).mono ?_);rintro q w2 ⟨rfl,Q2,hb2⟩;rw [←HR.out] at Q2;have B2:=B1.trans (hgb hb2);clear Q1 hb2)
        | (go_at_call 40;(with_reducible refine (blen_any g g R w2 Q2).mono ?_);rintro q w3 ⟨rfl,rfl⟩)
        | (go_at_call 39;(with_reducible refine (begin_any v _ w2 hlm).mono ?_);rintro q w3 ⟨rfl,rfl⟩)
        | (go_at_call 38;(with_reducible refine (wzeros_any m w2 hmz).mono ?_);rintro q w4 ⟨rfl,hb4⟩;have Q4:=Q2.below hb4;have B4:=B2.trans (hb4.mono B2.size);have hg4:g≤w4.heap.size:=Nat.le_trans hgg B4.size)
        | (go_at_call 37;(with_reducible refine (wstr_any g g R (zz m) w4 Q4 hlz hg4).mono ?_);rintro q w5 ⟨rfl,Q5,hb5⟩;have B5:=B4.trans (hgb hb5)))
       go_roundw
       case rel=>exact ⟨k+1,by omega,by go_num,by show _=_;rw [hall1.out,hall.out,ho];rfl,by rw [←hpad.out];exact Q5,B5⟩
       case measure=>simp [Go.RowKit.intOf];omega
    ·have hF:es.take k=es:=List.take_of_length_le (by rw [HE.out.len];omega)
     rw [hF] at hall hsb
     have K:=zh (bstr_any g g _ wr hsb (by rw [HG.out];exact hb.size))
     have HALL:=zh hall.out
     have HB:=zh hb
     clear hall hsb hb hF
     go_wp2_with (go_at_call 41;(with_reducible refine K.out.mono ?_);rintro q w1 ⟨rfl,hb1⟩)
     go_ret2
     exact ⟨by rw [hT1.out,hT2.out,HALL.out];rfl,HB.out.trans (by rw [←HG.out];exact hb1)⟩
end Go.Proofs.YtnobeoppffoomaaGreat
