/-
  WalPlays: VRd Var VTex VRef.
  Conditions: named in each theorem.
-/
import Derived.Test.YtnobeoppffoomaaGreatP03
import Derived.Deep.RegionHeld3
import Derived.Test.YtnobeoppffoomaaGreatP0
set_option linter.unusedVariables false
set_option linter.unusedSimpArgs false
set_option maxHeartbeats 8000000
set_option maxRecDepth 100000
namespace Go.Proofs.YtnobeoppffoomaaGreat
open Go.RowKit
def Rd (T g:Nat) (s:ByteArray) (bad:Bool) (w:World):Prop:=w.heap[g]?=some (.cells #[.string s,.bool bad] T (0,0))
def rdp (g:Nat):Value:=.pointer (some ⟨g,0,none⟩)
section
variable {T g:Nat} {s:ByteArray} {bad:Bool} {w w':World}
theorem Rd.lt (h:Rd T g s bad w):g<w.heap.size:=by
 rcases Nat.lt_or_ge g w.heap.size with hlt|hge
 ·exact hlt
 ·unfold Rd at h;rw [Array.getElem?_eq_none hge] at h;cases h
theorem Rd.cell0 (h:Rd T g s bad w):w.cell? ⟨g,0,none⟩=some (.string s):=zcr w g 0 _ T (0,0) h
theorem Rd.cell1 (h:Rd T g s bad w):w.cell? ⟨g,1,none⟩=some (.bool bad):=zcr w g 1 _ T (0,0) h
theorem Rd.frozen (h:Rd T g s bad w) (i:Nat):w.frozen? ⟨g,i,none⟩=false:=by
 unfold Rd at h
 simp [World.frozen?,h]
theorem Rd.new (w:World) (T:Nat) (s:ByteArray) (bad:Bool):Rd T w.heap.size s bad (w.alloc (.cells #[.string s,.bool bad] T)):=heap_alloc_new w _
theorem Rd.set0 (h:Rd T g s bad w) (t:ByteArray):Rd T g t bad (w.setCell ⟨g,0,none⟩ (.string t)):=by
 unfold Rd at h ⊢
 simp [World.setCell,Array.getElem?_modify,h]
theorem Rd.set1 (h:Rd T g s bad w) (b:Bool):Rd T g s b (w.setCell ⟨g,1,none⟩ (.bool b)):=by
 unfold Rd at h ⊢
 simp [World.setCell,Array.getElem?_modify,h]
theorem Rd.grown {row:Option Nat} (h:Rd T g s bad w) (hb:w.grownBy w' row) (hg:some g≠row):Rd T g s bad w':=(hb.block g h.lt hg).trans h
theorem Rd.below {B:Nat} (h:Rd T g s bad w) (hb:Below B w w') (hg:g<B):Rd T g s bad w':=(hb.block g hg).trans h
theorem Rd.drew (h:Rd T g s bad w):Rd T g s bad w.drew:=h
theorem grownBy_set {i:Nat} (v:Value):w.grownBy (w.setCell ⟨g,i,none⟩ v) (some g) :=
 ⟨rfl,rfl,rfl,by simp,fun k _ hk=>heap_setCell_other w ⟨g,i,none⟩ k v (fun e=>hk (by simp [e]))⟩
theorem grownBy_below (h:Below w.heap.size w w') (row:Option Nat):w.grownBy w' row:=⟨h.os,h.tape,h.output,h.size,fun k hk _=>h.block k hk⟩
theorem below_grownBy {B:Nat} {a:World} (h:Below B a w) (hg:w.grownBy w' (some g)) (hB:B≤w.heap.size) (hr:B≤g):Below B a w' :=
 h.grown hg hB (fun k hk=>by injection hk with hk;omega)
end
namespace Vi
def tlB (s:ByteArray):ByteArray:=s.extract 1 s.size
def hdB (s:ByteArray):Nat:=(s.data.toList.getD 0 0).toNat
end Vi
theorem new_any (s:ByteArray) (w:World):Calls Tryz.prog 156 #[.string s] w fun e w'=>e=.returned (rdp w.heap.size)∧w'=w.alloc (.cells #[.string s,.bool false] 225):=by
 go_enter Tryz.func156,Tryz.ntmps156
 go_wp2
 go_ret
 exact ⟨rfl,rfl⟩
theorem rnew_any (s:ByteArray) (w:World):Calls Tryz.prog 88 #[.string s] w fun e w'=>e=.returned (rdp w.heap.size)∧w'=w.alloc (.cells #[.string s,.bool false] 145):=by
 go_enter Tryz.func88,Tryz.ntmps88
 go_wp2
 go_ret
 exact ⟨rfl,rfl⟩
theorem fail_any (g:Nat) (s:ByteArray) (bad:Bool) (w:World) (h:Rd 225 g s bad w) :
 Calls Tryz.prog 184 #[rdp g] w fun e w'=>e=.returned (.tuple #[])∧Rd 225 g ⟨#[]⟩ true w'∧w.grownBy w' (some g):=by
 have c0:=h.cell0
 have c1:=h.cell1
 have f0:=h.frozen 0
 have f1:=h.frozen 1
 unfold rdp
 go_enter Tryz.func184,Tryz.ntmps184
 go_wp2
 go_end0
 exact ⟨rfl,(h.set0 _).set1 _,(grownBy_set _).trans (grownBy_set _)⟩
theorem rfail_any (g:Nat) (s:ByteArray) (bad:Bool) (w:World) (h:Rd 145 g s bad w) :
 Calls Tryz.prog 121 #[rdp g] w fun e w'=>e=.returned (.tuple #[])∧Rd 145 g ⟨#[]⟩ true w'∧w.grownBy w' (some g):=by
 have c0:=h.cell0
 have c1:=h.cell1
 have f0:=h.frozen 0
 have f1:=h.frozen 1
 unfold rdp
 go_enter Tryz.func121,Tryz.ntmps121
 go_wp2
 go_end0
 exact ⟨rfl,(h.set1 _).set0 _,(grownBy_set _).trans (grownBy_set _)⟩
theorem ok_any (g:Nat) (s:ByteArray) (bad:Bool) (w:World) (h:Rd 225 g s bad w) :
 Calls Tryz.prog 161 #[rdp g] w fun e w'=>e=.returned (.bool (!bad))∧w=w':=by
 have c1:=h.cell1
 unfold rdp
 go_enter Tryz.func161,Tryz.ntmps161
 go_wp2
 go_ret
 exact ⟨rfl,rfl⟩
theorem left_any (g:Nat) (s:ByteArray) (bad:Bool) (w:World) (h:Rd 225 g s bad w) :
 Calls Tryz.prog 159 #[rdp g] w fun e w'=>e=.returned (.int .i64 s.size)∧w=w':=by
 have c0:=h.cell0
 unfold rdp
 go_enter Tryz.func159,Tryz.ntmps159
 go_wp2
 go_ret
 exact ⟨rfl,rfl⟩
theorem next_none (g:Nat) (bad:Bool) (w:World) (h:Rd 225 g ⟨#[]⟩ bad w) :
 Calls Tryz.prog 185 #[rdp g] w fun e w'=>e=.returned (.int .u8 0)∧Rd 225 g ⟨#[]⟩ true w'∧w.grownBy w' (some g):=by
 have c0:=h.cell0
 have hF:=fail_any g _ bad w h
 have HF:=zh hF
 clear hF
 unfold rdp at *
 go_enter Tryz.func185,Tryz.ntmps185
 go_wp2_with fail
 refine HF.out.mono ?_
 rintro e w1 ⟨rfl,h1,h2⟩
 go_wp2
 go_ret
 exact ⟨rfl,h1,h2⟩
theorem next_some (g:Nat) (s:ByteArray) (bad:Bool) (w:World) (h:Rd 225 g s bad w) (hs:0<s.size) (hm:s.size≤281474976710656) :
 Calls Tryz.prog 185 #[rdp g] w fun e w'=>e=.returned (.int .u8 (Vi.hdB s))∧Rd 225 g (Vi.tlB s) bad w'∧w.grownBy w' (some g):=by
 have c0:=h.cell0
 have f0:=h.frozen 0
 have hne:s.toList.isEmpty=false:=by
  rw [Lib.toList_data,List.isEmpty_eq_false_iff]
  intro hn
  have h2:s.size=s.data.toList.length:=by simp
  rw [hn,List.length_nil] at h2;omega
 have hs':(0:Int)<s.size:=by omega
 unfold rdp
 go_enter Tryz.func185,Tryz.ntmps185
 go_wp2
 go_ret
 refine ⟨?_,h.set0 _,grownBy_set _⟩
 have e:Vi.hdB s=s[0].toNat:=by
  unfold Vi.hdB
  rw [List.getD_eq_getElem?_getD,List.getElem?_eq_getElem (by simpa using hs)];rfl
 rw [e];rfl
theorem clone_any (s:ByteArray) (w:World) (hs:s.size≤281474976710656) :
 Calls Tryz.prog 188 #[.string s] w fun e w'=>e=.returned (.string s)∧Below w.heap.size w w':=by
 go_enter Tryz.func188,Tryz.ntmps188
 go_wp2_with fail
 refine (Tryz.stringslite_Clone s w hs).mono ?_
 rintro e w1 ⟨rfl,hb⟩
 go_wp2
 go_ret
 exact ⟨rfl,hb⟩
namespace Vi
def hasB (s:ByteArray) (n:Int):Bool:=decide (0≤n∧n≤s.size)
def bytV (s:ByteArray) (n:Int):ByteArray:=if hasB s n=true then s.extract 0 n.toNat else ⟨#[]⟩
def bytT (s:ByteArray) (n:Int):ByteArray:=if hasB s n=true then s.extract n.toNat s.size else ⟨#[]⟩
end Vi
theorem bytes_no (g:Nat) (s:ByteArray) (bad:Bool) (n:Int) (w:World) (h:Rd 225 g s bad w) (hn:n<0∨s.size<n) :
 Calls Tryz.prog 160 #[rdp g,.int .i64 n] w fun e w'=>e=.returned (.string ⟨#[]⟩)∧Rd 225 g ⟨#[]⟩ true w'∧w.grownBy w' (some g):=by
 have hL:=zh (left_any g _ bad w h)
 have hF:=zh (fail_any g _ bad w h)
 rcases hn with hn|hn
 ·unfold rdp at *
  go_enter Tryz.func160,Tryz.ntmps160
  go_wp2_with fail
  refine hF.out.mono ?_
  rintro e w1 ⟨rfl,h1,h2⟩
  go_wp2
  go_ret
  exact ⟨rfl,h1,h2⟩
 ·have hn0:¬ n<0:=by omega
  have hd:decide (n<0)=false:=by simpa using hn0
  unfold rdp at *
  go_enter Tryz.func160,Tryz.ntmps160
  go_wp2_with fail
  refine hL.out.mono ?_
  rintro e w1 ⟨rfl,rfl⟩
  go_wp2_with fail
  refine hF.out.mono ?_
  rintro e w1 ⟨rfl,h1,h2⟩
  go_wp2
  go_ret
  exact ⟨rfl,h1,h2⟩
theorem bytes_yes (g:Nat) (s:ByteArray) (bad:Bool) (n:Nat) (w:World) (h:Rd 225 g s bad w) (hm:s.size≤281474976710656) (hn:n≤s.size) :
 Calls Tryz.prog 160 #[rdp g,.int .i64 n] w fun e w'=>e=.returned (.string (s.extract 0 n))∧Rd 225 g (s.extract n s.size) bad w'∧w.grownBy w' (some g):=by
 have hL:=zh (left_any g _ bad w h)
 have c0:=h.cell0
 have f0:=h.frozen 0
 have hx:(s.extract 0 n).size≤281474976710656:=by rw [ByteArray.size_extract];omega
 have hn0:¬ ((n:Int)<0):=by omega
 have hn1:(n:Int)≤s.size:=by omega
 unfold rdp at *
 go_enter Tryz.func160,Tryz.ntmps160
 go_wp2_with fail
 refine hL.out.mono ?_
 rintro e w1 ⟨rfl,rfl⟩
 go_wp2_with fail
 refine (clone_any _ _ hx).mono ?_
 rintro e w1 ⟨rfl,hb⟩
 go_wp2
 go_ret
 have hr:=h.set0 (s.extract n s.size)
 exact ⟨rfl,hr.below hb hr.lt,(grownBy_set _).trans (grownBy_below hb _)⟩
theorem bytes_any (g:Nat) (s:ByteArray) (bad:Bool) (n:Int) (w:World) (h:Rd 225 g s bad w) (hm:s.size≤281474976710656) :
 Calls Tryz.prog 160 #[rdp g,.int .i64 n] w fun e w'=>e=.returned (.string (Vi.bytV s n))∧Rd 225 g (Vi.bytT s n) (bad||!Vi.hasB s n) w'∧w.grownBy w' (some g):=by
 by_cases hn:0≤n∧n≤s.size
 ·have e:Vi.hasB s n=true:=decide_eq_true hn
  unfold Vi.bytV Vi.bytT
  rw [if_pos e,if_pos e,e,Bool.not_true,Bool.or_false]
  obtain ⟨k,rfl⟩:=Int.eq_ofNat_of_zero_le hn.1
  exact bytes_yes g s bad k w h hm (by omega)
 ·have e:Vi.hasB s n=false:=decide_eq_false hn
  unfold Vi.bytV Vi.bytT
  rw [e,if_neg (by decide),if_neg (by decide),Bool.not_false,Bool.or_true]
  exact bytes_no g s bad n w h (by omega)
theorem rbytes_no (g:Nat) (s:ByteArray) (bad:Bool) (n:Int) (w:World) (h:Rd 145 g s bad w) (hn:bad=true∨n<0∨s.size<n) :
 Calls Tryz.prog 91 #[rdp g,.int .i64 n] w fun e w'=>e=.returned (.string ⟨#[]⟩)∧Rd 145 g ⟨#[]⟩ true w'∧w.grownBy w' (some g):=by
 have c0:=h.cell0
 have c1:=h.cell1
 have hF:=zh (rfail_any g _ bad w h)
 cases bad
 ·rcases (show n<0∨(0≤n∧s.size<n) by rcases hn with hn|hn|hn<;>first|(cases hn;done)|omega) with hn|⟨hn0,hn⟩
  ·unfold rdp at *
   go_enter Tryz.func91,Tryz.ntmps91
   go_wp2_with fail
   refine hF.out.mono ?_
   rintro e w1 ⟨rfl,h1,h2⟩
   go_wp2
   go_ret
   exact ⟨rfl,h1,h2⟩
  ·have hn0':¬ n<0:=by omega
   unfold rdp at *
   go_enter Tryz.func91,Tryz.ntmps91
   go_wp2_with fail
   refine hF.out.mono ?_
   rintro e w1 ⟨rfl,h1,h2⟩
   go_wp2
   go_ret
   exact ⟨rfl,h1,h2⟩
 ·clear hn
  unfold rdp at *
  go_enter Tryz.func91,Tryz.ntmps91
  go_wp2_with fail
  refine hF.out.mono ?_
  rintro e w1 ⟨rfl,h1,h2⟩
  go_wp2
  go_ret
  exact ⟨rfl,h1,h2⟩
theorem rbytes_yes (g:Nat) (s:ByteArray) (n:Nat) (w:World) (h:Rd 145 g s false w) (_hm:s.size≤281474976710656) (hn:n≤s.size) :
 Calls Tryz.prog 91 #[rdp g,.int .i64 n] w fun e w'=>e=.returned (.string (s.extract 0 n))∧Rd 145 g (s.extract n s.size) false w'∧w.grownBy w' (some g):=by
 have c0:=h.cell0
 have c1:=h.cell1
 have f0:=h.frozen 0
 have hn0:¬ ((n:Int)<0):=by omega
 have hn1:(n:Int)≤s.size:=by omega
 unfold rdp at *
 go_enter Tryz.func91,Tryz.ntmps91
 go_wp2
 go_ret
 exact ⟨rfl,h.set0 _,grownBy_set _⟩
def Vi.Sane (s:ByteArray) (bad:Bool):Prop:=bad=true→s=⟨#[]⟩
theorem rbytes_any (g:Nat) (s:ByteArray) (bad:Bool) (n:Int) (w:World) (h:Rd 145 g s bad w) (hs:Vi.Sane s bad) (hm:s.size≤281474976710656) :
 Calls Tryz.prog 91 #[rdp g,.int .i64 n] w fun e w'=>e=.returned (.string (Vi.bytV s n))∧Rd 145 g (Vi.bytT s n) (bad||!Vi.hasB s n) w'∧w.grownBy w' (some g):=by
 cases bad
 ·by_cases hn:0≤n∧n≤s.size
  ·have e:Vi.hasB s n=true:=decide_eq_true hn
   unfold Vi.bytV Vi.bytT
   rw [if_pos e,if_pos e,e,Bool.not_true,Bool.or_false]
   obtain ⟨k,rfl⟩:=Int.eq_ofNat_of_zero_le hn.1
   exact rbytes_yes g s k w h hm (by omega)
  ·have e:Vi.hasB s n=false:=decide_eq_false hn
   unfold Vi.bytV Vi.bytT
   rw [e,if_neg (by decide),if_neg (by decide),Bool.not_false,Bool.or_true]
   exact rbytes_no g s false n w h (by omega)
 ·obtain rfl:=hs rfl
  have e1:Vi.bytV ⟨#[]⟩ n=⟨#[]⟩:=by
   unfold Vi.bytV;split
   ·apply ByteArray.ext;simp
   ·rfl
  have e2:Vi.bytT ⟨#[]⟩ n=⟨#[]⟩:=by
   unfold Vi.bytT;split
   ·apply ByteArray.ext;simp
   ·rfl
  rw [e1,e2,Bool.true_or]
  exact rbytes_no g _ true n w h (.inl rfl)
end Go.Proofs.YtnobeoppffoomaaGreat
namespace Go.Proofs.YtnobeoppffoomaaGreat
open Go.RowKit
namespace Vi
def nums (s:ByteArray):List Nat:=s.data.toList.map (·.toNat)
theorem nums_length (s:ByteArray):(nums s).length=s.size:=by simp [nums]
theorem nums_lt (s:ByteArray):∀ x∈nums s,x<256:=by
 intro x hx
 obtain ⟨b,_,rfl⟩:=List.mem_map.1 hx
 exact b.toNat_lt
theorem nums_getD_lt (s:ByteArray) (k:Nat):(nums s).getD k 0<256:=by
 rw [List.getD_eq_getElem?_getD]
 rcases h:(nums s)[k]? with _|x
 ·decide
 ·exact nums_lt s x (List.mem_of_getElem? h)
theorem extract_extract (s:ByteArray) (k:Nat) (h:k≤s.size):tlB (s.extract k s.size)=s.extract (k+1) s.size:=by
 unfold tlB
 apply ByteArray.ext
 have e:min (k+(s.size-k)) s.size=s.size:=by omega
 simp [ByteArray.data_extract,Array.extract_extract,e]
theorem nums_extract (s:ByteArray) (a b:Nat):nums (s.extract a b)=((nums s).drop a).take (b-a):=by
 unfold nums
 rw [ByteArray.data_extract,Array.toList_extract,List.extract_eq_take_drop,List.map_take,List.map_drop]
theorem hdB_eq (s:ByteArray):hdB s=(nums s).getD 0 0:=by
 unfold hdB nums
 rw [List.getD_eq_getElem?_getD,List.getD_eq_getElem?_getD,List.getElem?_map]
 cases s.data.toList[0]?<;>rfl
theorem hdB_extract (s:ByteArray) (k:Nat) (h:k<s.size):hdB (s.extract k s.size)=(nums s).getD k 0:=by
 rw [hdB_eq,nums_extract,List.getD_eq_getElem?_getD,List.getElem?_take,if_pos (by omega),List.getElem?_drop,Nat.add_zero,List.getD_eq_getElem?_getD]
def varV (s:ByteArray):Nat:=valL (nums s)
def varO (s:ByteArray):Bool:=okL (nums s)
def varT (s:ByteArray):ByteArray:=s.extract (lenL (nums s)) s.size
theorem low7 (b:Nat) (h:b<256):bits BinOp.andNot IntKind.u8 (b:Int) 128=((b % 128:Nat):Int):=by
 have h2:bits BinOp.andNot IntKind.u8 (b:Int) 128=((b &&& (255-128):Nat):Int):=u8_andNot_nat b 128 h (by omega)
 rw [h2]
 congr 1
 exact Nat.and_two_pow_sub_one_eq_mod b 7
theorem val_ok (l:List Nat) (i:Nat) (hi:i<l.length) (h9:i≤9) (hb:i=9→l.getD i 0≤1):val (l.take (i+1)) % 18446744073709551616=val (l.take (i+1)):=by
 refine Nat.mod_eq_of_lt ?_
 rcases Nat.lt_or_ge i 9 with h|h
 ·exact Nat.lt_trans (val_take_le l (i+1) (by omega)) (by omega)
 ·obtain rfl:i=9:=by omega
  have h1:=val_take l 9 hi
  have h2:=val_take_lt l 9
  have h3:=hb rfl
  have h4:(128:Nat) ^ 9=9223372036854775808:=by decide
  rw [h4] at h1 h2
  have h5:l.getD 9 0 % 128≤1:=Nat.le_trans (Nat.mod_le _ _) h3
  omega
theorem step7 (l:List Nat) (k:Nat) (hk:k<l.length) (h9:k≤9) (X:Int) (hX:X=((l.getD k 0 % 128:Nat):Int)) :
 bits BinOp.or IntKind.u64 ((val (l.take k) % 18446744073709551616:Nat):Int) (IntKind.u64.wrap (IntKind.u64.wrap X*2 ^ (7*k)))=((val (l.take (k+1)) % 18446744073709551616:Nat):Int):=by
 subst hX
 have hc:l.getD k 0 % 128<128:=Nat.mod_lt _ (by omega)
 have hv:=val_take_lt l k
 have hs:=val_take l k hk
 have hle:=val_take_le l k h9
 rw [hs]
 generalize val (l.take k)=V at *
 generalize l.getD k 0 % 128=c at *
 have hp:(128:Nat) ^ k=2 ^ (7*k):=by rw [Nat.pow_mul]
 rw [hp] at hv ⊢
 have hpq:2 ^ (7*k)*2 ^ (64-7*k)=18446744073709551616:=by
  rw [←Nat.pow_add]
  have:7*k+(64-7*k)=64:=by omega
  rw [this]
 have hq0:0<2 ^ (64-7*k):=Nat.pow_pos (by omega)
 have hw1:IntKind.u64.wrap ((c:Nat):Int)=((c:Nat):Int):=IntWalk.u64_in _ (by omega)
 have hw2:IntKind.u64.wrap (((c:Nat):Int)*2 ^ (7*k))=((2 ^ (7*k)*(c % 2 ^ (64-7*k)):Nat):Int):=by
  have e:((c:Nat):Int)*2 ^ (7*k)=((2 ^ (7*k)*c:Nat):Int):=by
   rw [Int.natCast_mul,Int.natCast_pow,Int.mul_comm];rfl
  have e2:IntKind.u64.wrap ((2 ^ (7*k)*c:Nat):Int)=((2 ^ (7*k)*c:Nat):Int) % 18446744073709551616:=by
   rw [IntKind.wrap_u64]
  rw [e,e2]
  have e3:((2 ^ (7*k)*c:Nat):Int) % 18446744073709551616=(((2 ^ (7*k)*c) % 18446744073709551616:Nat):Int):=by
   rw [Int.natCast_emod];rfl
  rw [e3,←hpq,Nat.mul_mod_mul_left]
 rw [hw1,hw2,Nat.mod_eq_of_lt (Nat.lt_trans hle (by omega))]
 have hcq:c % 2 ^ (64-7*k)<2 ^ (64-7*k):=Nat.mod_lt _ hq0
 have hlt:V+2 ^ (7*k)*(c % 2 ^ (64-7*k))<18446744073709551616:=by
  rw [←hpq]
  have h1:2 ^ (7*k)*(c % 2 ^ (64-7*k)+1)≤2 ^ (7*k)*2 ^ (64-7*k):=Nat.mul_le_mul_left _ hcq
  rw [Nat.mul_add,Nat.mul_one] at h1
  omega
 have hor:=Nat.two_pow_add_eq_or_of_lt hv (c % 2 ^ (64-7*k))
 have hb:=u64_or_nat V (2 ^ (7*k)*(c % 2 ^ (64-7*k))) (by omega) (by omega)
 rw [hb,Nat.or_comm,←hor]
 congr 1
 have hdm:2 ^ (7*k)*c=2 ^ (7*k)*(c % 2 ^ (64-7*k))+18446744073709551616*(c / 2 ^ (64-7*k)):=by
  rw [←hpq,Nat.mul_assoc,←Nat.mul_add,Nat.mod_add_div]
 rw [hdm,←Nat.add_assoc,Nat.add_mul_mod_self_left,Nat.mod_eq_of_lt hlt,Nat.add_comm]
theorem var_yes (s:ByteArray) (k:Nat) (h:∀ j,j<k→128≤(nums s).getD j 0) (hk:k<s.size) (hb:(nums s).getD k 0<128) (h9:k≤9) (hc:(k=0∨(nums s).getD k 0≠0)∧(k=9→(nums s).getD k 0≤1)) :
 varV s=val ((nums s).take (k+1)) % 18446744073709551616∧varO s=true∧varT s=s.extract (k+1) s.size:=by
 have hl:=nums_length s
 have ho:okL (nums s)=true:=by rw [okL_at _ k h (by omega) hb h9];exact decide_eq_true hc
 have hv:=valL_at _ k h (by omega) hb ho
 unfold varV varO varT
 exact ⟨by rw [hv.1,val_ok _ k (by omega) h9 hc.2],ho,by rw [hv.2]⟩
theorem var_no (s:ByteArray) (h:okL (nums s)=false):varV s=0∧varO s=false∧varT s=⟨#[]⟩:=by
 unfold varV varO varT valL lenL
 rw [h,if_neg (by decide),if_neg (by decide),nums_length]
 refine ⟨rfl,rfl,?_⟩
 apply ByteArray.ext
 simp
theorem var_no_at (s:ByteArray) (k:Nat) (h:∀ j,j<k→128≤(nums s).getD j 0) (hk:k<s.size) (hb:(nums s).getD k 0<128) (h9:k≤9) (hc:¬ ((k=0∨(nums s).getD k 0≠0)∧(k=9→(nums s).getD k 0≤1))) :
 varV s=0∧varO s=false∧varT s=⟨#[]⟩:=by
 have hl:=nums_length s
 refine var_no s ?_
 rw [okL_at _ k h (by omega) hb h9];exact decide_eq_false hc
end Vi
theorem ret_eq {k:IntKind} {a b:Int} (h:a=b):Ending.returned (.int k a)=.returned (.int k b):=by rw [h]
theorem var_any (g:Nat) (s:ByteArray) (bad:Bool) (w:World) (h:Rd 225 g s bad w) (hm:s.size≤281474976710656) :
 Calls Tryz.prog 187 #[rdp g] w fun e w'=>e=.returned (.int .u64 (Vi.varV s))∧Rd 225 g (Vi.varT s) (bad||!Vi.varO s) w'∧w.grownBy w' (some g):=by
 have hmf:∀ (fn:Fn) (first cap:Array Value) (w:World),(Instr.makeFunc fn first cap).run Tryz.prog w=.ok (.func fn first cap) w:=fun _ _ _ _=>rfl
 have hl:=Vi.nums_length s
 unfold rdp
 go_enter Tryz.func187,Tryz.ntmps187
 go_wp2
 go_loopw [4,9] (fun n c wr=>∃ k:Nat,k≤10∧k≤s.size∧c=.int .i64 k∧n=.int .u64 ((Vi.val ((Vi.nums s).take k) % 18446744073709551616:Nat):Int)∧Hid (∀ j,j<k→128≤(Vi.nums s).getD j 0)∧Rd 225 g (s.extract k s.size) bad wr∧w.grownBy wr (some g)) (fun _ c _=>10-(Go.RowKit.intOf c).toNat)
 case atStart =>
  refine ⟨0,by omega,by omega,rfl,rfl,fun j hj=>by omega,?_,World.grownBy.refl _ _⟩
  have e:s.extract 0 s.size=s:=by apply ByteArray.ext;simp
  rw [e];exact h
 case round =>
  obtain ⟨k,hk,hks,rfl,rfl,HG,hr,hb⟩:=hrel
  by_cases hk10:k<10
  ·rcases Nat.lt_or_ge k s.size with hlt|hge
   ·have hN:=zh (next_some g _ bad wr hr (by rw [ByteArray.size_extract];omega) (by rw [ByteArray.size_extract];omega))
    have hbt:=Vi.nums_getD_lt s k
    have HH:=zh (Vi.hdB_extract s k hlt)
    have HT:=zh (Vi.extract_extract s k hks)
    have HB:=zh (Vi.low7 _ hbt)
    clear hmf
    unfold rdp at *
    generalize hv:Vi.val ((Vi.nums s).take k) % 18446744073709551616=v at *
    have HV:=zh hv
    clear hv
    go_wp2_with fail
    refine hN.out.mono ?_
    rintro e w1 ⟨rfl,h1,h2⟩
    rw [HT.out] at h1
    rw [HH.out]
    clear HH HT hN
    have hb':=hb.trans h2
    clear h2 hb hr
    have HS:=zh (fun X hX=>Vi.step7 (Vi.nums s) k (by omega) (by omega) X hX)
    rw [HV.out] at HS
    by_cases hb128:128≤(Vi.nums s).getD k 0
    ·have HG':Hid (∀ j,j<k+1→128≤(Vi.nums s).getD j 0):=fun j hj=>by
      rcases Nat.lt_or_ge j k with h|h
      ·exact HG.out j h
      ·obtain rfl:j=k:=by omega
       exact hb128
     generalize (Vi.nums s).getD k 0=b at *
     go_wp2
     go_roundw
     case rel =>
      rw [HS.out _ HB.out]
      exact ⟨k+1,by omega,by omega,by go_num,rfl,HG',h1,hb'⟩
     case measure=>simp [Go.RowKit.intOf];omega
    ·by_cases hc:(k=0∨(Vi.nums s).getD k 0≠0)∧(k=9→(Vi.nums s).getD k 0≤1)
     ·have HY:=zh (Vi.var_yes s k HG.out hlt (by omega) (by omega) hc)
      have hb1:(Vi.nums s).getD k 0<128:=by omega
      clear HG
      have hfin:∀ e:Int,e=((Vi.val ((Vi.nums s).take (k+1)) % 18446744073709551616:Nat):Int)→(Ending.returned (.int .u64 e)=.returned (.int .u64 (Vi.varV s))∧Rd 225 g (Vi.varT s) (bad||!Vi.varO s) w1∧w.grownBy w1 (some g)):=by
       intro e he
       obtain ⟨y1,y2,y3⟩:=HY.out
       rw [y1,y2,y3,he,Bool.not_true,Bool.or_false]
       exact ⟨rfl,h1,hb'⟩
      have HF:=zh hfin
      clear hfin HY
      generalize (Vi.nums s).getD k 0=b at *
      rcases Nat.eq_zero_or_pos k with h0|h0
      ·have hk0:¬ ((0:Int)<k):=by omega
       have hk9:((k:Int)==9)=false:=by rw [beq_eq_false_iff_ne];omega
       have HK:=zh h0
       clear h0 hc
       go_wp2
       go_ret
       exact HF.out _ (HS.out _ HB.out)
      ·have hb0:((b:Int)==0)=false:=by rw [beq_eq_false_iff_ne];omega
       have hk0:((0:Int)<k):=by omega
       rcases Nat.lt_or_ge k 9 with h9|h9
       ·have hk9:((k:Int)==9)=false:=by rw [beq_eq_false_iff_ne];omega
        clear hc
        go_wp2
        go_ret
        exact HF.out _ (HS.out _ HB.out)
       ·have hk9:((k:Int)==9)=true:=by rw [beq_iff_eq];omega
        have hb2:(b:Int)≤1:=by have:=hc.2 (by omega);omega
        clear hc
        go_wp2
        go_ret
        exact HF.out _ (HS.out _ HB.out)
     ·have HY:=zh (Vi.var_no_at s k HG.out hlt (by omega) (by omega) hc)
      have hb1:(Vi.nums s).getD k 0<128:=by omega
      clear HG
      have hfin:∀ w',Rd 225 g ⟨#[]⟩ true w'→w1.grownBy w' (some g)→((0:Int)=(Vi.varV s:Int)∧Rd 225 g (Vi.varT s) (bad||!Vi.varO s) w'∧w.grownBy w' (some g)):=by
       intro w' h1' h2'
       obtain ⟨y1,y2,y3⟩:=HY.out
       rw [y1,y2,y3,Bool.not_false,Bool.or_true]
       exact ⟨rfl,h1',hb'.trans h2'⟩
      have HF:=zh hfin
      clear hfin HY
      generalize (Vi.nums s).getD k 0=b at *
      have hk0:((0:Int)<k):=by omega
      by_cases hb0:b=0
      ·have hb0':((b:Int)==0)=true:=by rw [beq_iff_eq];omega
       have HB0:=zh hb0
       clear hb0 hc
       go_wp2_with fail
       refine (fail_any g _ bad _ h1).mono ?_
       rintro e w2 ⟨rfl,h3,h4⟩
       go_wp2
       go_ret
       exact ⟨ret_eq (HF.out w2 h3 h4).1,(HF.out w2 h3 h4).2⟩
      ·have hb0':((b:Int)==0)=false:=by rw [beq_eq_false_iff_ne];omega
       have hk9:((k:Int)==9)=true:=by rw [beq_iff_eq];omega
       have hb2:(1:Int)<b:=by omega
       clear hb0 hc
       go_wp2_with fail
       refine (fail_any g _ bad _ h1).mono ?_
       rintro e w2 ⟨rfl,h3,h4⟩
       go_wp2
       go_ret
       exact ⟨ret_eq (HF.out w2 h3 h4).1,(HF.out w2 h3 h4).2⟩
   ·have hkk:k=s.size:=by omega
    have he:s.extract k s.size=⟨#[]⟩:=by
     apply ByteArray.ext;rw [hkk];simp
    rw [he] at hr
    have hN:=zh (next_none g bad wr hr)
    have HY:=zh (Vi.var_no s (Vi.okL_no _ k HG.out (.inr (by omega))))
    have hfin:∀ w',Rd 225 g ⟨#[]⟩ true w'→wr.grownBy w' (some g)→((0:Int)=(Vi.varV s:Int)∧Rd 225 g (Vi.varT s) (bad||!Vi.varO s) w'∧w.grownBy w' (some g)):=by
     intro w' h1' h2'
     obtain ⟨y1,y2,y3⟩:=HY.out
     rw [y1,y2,y3,Bool.not_false,Bool.or_true]
     exact ⟨rfl,h1',hb.trans h2'⟩
    have HF:=zh hfin
    clear hfin HY HG hmf hr hb he
    unfold rdp at *
    have HZ:Hid (k=0→Vi.val ((Vi.nums s).take k) % 18446744073709551616=0):=by rintro rfl;simp [Vi.val]
    generalize Vi.val ((Vi.nums s).take k) % 18446744073709551616=v at *
    have HKK:=zh hkk
    clear hkk
    go_wp2_with fail
    refine hN.out.mono ?_
    rintro e w1 ⟨rfl,h1,h2⟩
    rcases Nat.eq_zero_or_pos k with h0|h0
    ·have hk0:¬ ((0:Int)<k):=by omega
     have hk9:((k:Int)==9)=false:=by rw [beq_eq_false_iff_ne];omega
     have HK:=zh h0
     clear h0
     go_wp2
     go_ret
     have hz0:=HK.out
     have hv0:=HZ.out hz0
     have e0:bits BinOp.or IntKind.u64 ((v:Nat):Int) (IntKind.u64.wrap (IntKind.u64.wrap (bits BinOp.andNot IntKind.u8 0 128)*2 ^ (7*k)))=0:=by
      rw [hv0,hz0];decide
     exact ⟨ret_eq (e0.trans (HF.out w1 h1 h2).1),(HF.out w1 h1 h2).2⟩
    ·have hk0:((0:Int)<k):=by omega
     go_wp2_with fail
     refine (fail_any g _ true _ h1).mono ?_
     rintro e w2 ⟨rfl,h3,h4⟩
     go_wp2
     go_ret
     exact ⟨ret_eq (HF.out w2 h3 (h2.trans h4)).1,(HF.out w2 h3 (h2.trans h4)).2⟩
  ·have hkk:k=10:=by omega
   have HY:=zh (Vi.var_no s (Vi.okL_no _ k HG.out (.inl hkk)))
   clear HG hmf
   generalize Vi.val ((Vi.nums s).take k) % 18446744073709551616=v at *
   have HKK:=zh hkk
   clear hkk
   unfold rdp at *
   go_wp2_with fail
   refine (fail_any g _ bad _ hr).mono ?_
   rintro e w2 ⟨rfl,h3,h4⟩
   go_wp2
   go_ret
   obtain ⟨y1,y2,y3⟩:=HY.out
   rw [y1,y2,y3,Bool.not_false,Bool.or_true]
   exact ⟨rfl,h3,hb.trans h4⟩
end Go.Proofs.YtnobeoppffoomaaGreat
namespace Go.Proofs.YtnobeoppffoomaaGreat
open Go.RowKit
namespace Vi
theorem valL_lt (l:List Nat):valL l<18446744073709551616:=by
 unfold valL
 split
 ·rename_i ho
  have h:cnt l≤9∧cnt l<l.length∧(cnt l=0∨l.getD (cnt l) 0≠0)∧(cnt l=9→l.getD 9 0≤1):=of_decide_eq_true ho
  have e:=val_ok l (cnt l) h.2.1 h.1 (fun h9=>by rw [h9];exact h.2.2.2 h9)
  rw [←e]
  exact Nat.mod_lt _ (by omega)
 ·omega
theorem _root_.Go.Proofs.YtnobeoppffoomaaGreat.bools3 (a b c:Bool):(a||!b||!c)=(a||!(b&&c)):=by cases a<;>cases b<;>cases c<;>rfl
theorem varV_lt (s:ByteArray):varV s<18446744073709551616:=valL_lt _
theorem varT_size (s:ByteArray):(varT s).size≤s.size:=by unfold varT;rw [ByteArray.size_extract];omega
end Vi
end Go.Proofs.YtnobeoppffoomaaGreat
namespace Go.Proofs.YtnobeoppffoomaaGreat
open Go.RowKit
namespace Vi
theorem nums_inj {a b:ByteArray} (h:nums a=nums b):a=b:=by
 have hm:∀ l m:List UInt8,l.map (·.toNat)=m.map (·.toNat)→l=m:=by
  intro l
  induction l with
  | nil=>intro m h;cases m with|nil=>rfl|cons _ _=>simp at h
  | cons x l ih =>
    intro m h
    cases m with
    | nil=>simp at h
    | cons y m =>
      rw [List.map_cons,List.map_cons,List.cons.injEq] at h
      rw [ih m h.2,UInt8.toNat_inj.1 h.1]
 have:=hm _ _ h
 exact ByteArray.ext (Array.ext' this)
theorem nums_str (l:List Nat) (hl:∀ x∈l,x<256):nums (str l)=l:=by
 unfold nums str
 rw [strOfNums_data,List.map_map,List.map_map]
 conv=>rhs;rw [←List.map_id l]
 refine List.map_congr_left fun x hx=>?_
 have:=hl x hx
 simp
 omega
theorem beq_nums (a b:ByteArray):(a.toList==b.toList)=decide (nums a=nums b):=by
 rw [Lib.toList_data,Lib.toList_data]
 by_cases h:nums a=nums b
 ·rw [decide_eq_true h,nums_inj h];simp
 ·rw [decide_eq_false h,beq_eq_false_iff_ne]
  intro e
  exact h (by unfold nums;rw [e])
theorem step7b (l:List Nat) (k:Nat) (hk:k<l.length) (h9:k≤9) (Y:Int) (hY:Y=((l.getD k 0 % 128:Nat):Int)) :
 bits BinOp.or IntKind.u64 ((val (l.take k) % 18446744073709551616:Nat):Int) (IntKind.u64.wrap (Y*2 ^ (7*k)))=((val (l.take (k+1)) % 18446744073709551616:Nat):Int):=by
 have h:=step7 l k hk h9 Y hY
 rwa [IntWalk.u64_in Y (by omega)] at h
theorem rtest (s:ByteArray) (i:Nat) (h:∀ j,j<i→128≤(nums s).getD j 0) (hi:i<s.size) (hb:(nums s).getD i 0<128) (h9:i≤9) :
 ((putB (val ((nums s).take (i+1)) % 18446744073709551616)).toList==(s.extract 0 (i+1)).toList)=okL (nums s):=by
 have hl:=nums_length s
 rw [beq_nums,nums_extract,List.drop_zero,Nat.sub_zero]
 unfold putB
 rw [nums_str _ (put_lt _)]
 have ht:=put_test (nums s) i (nums_lt s) h (by omega) hb h9
 cases ho:okL (nums s)
 ·rw [decide_eq_false_iff_not,ht,ho];decide
 ·rw [decide_eq_true_iff,ht,ho]
end Vi
theorem rput_at (n:Nat) (g:Nat) (s:ByteArray) (w:World) (hn:n<18446744073709551616) (hc:w.cell? ⟨g,0,none⟩=some (.string s)) :
 Calls Tryz.prog 117 #[.int .u64 n] w fun e w'=>e=.returned (.string (Vi.putB n))∧Below w.heap.size w w'∧w'.cell? ⟨g,0,none⟩=some (.string s) :=
 (rput_any n w hn).mono fun _ _ ⟨h1,h2⟩=>⟨h1,h2,(h2.cell (World.block_lt_of_cell? w _ hc)).trans hc⟩
theorem rvar_any (g:Nat) (s:ByteArray) (bad:Bool) (w:World) (h:Rd 145 g s bad w) (hm:s.size≤281474976710656) :
 Calls Tryz.prog 90 #[rdp g] w fun e w'=>e=.returned (.int .u64 (Vi.varV s))∧Rd 145 g (Vi.varT s) (bad||!Vi.varO s) w'∧w.grownBy w' (some g):=by
 have hl:=Vi.nums_length s
 have c0:=h.cell0
 have f0:=h.frozen 0
 have hF:=fun w' (hb:Below w.heap.size w w')=>rfail_any g s bad w' (h.below hb h.lt)
 have HF:=zh hF
 clear hF
 unfold rdp at *
 go_enter Tryz.func90,Tryz.ntmps90
 go_wp2
 go_loop [3,4] (fun n c=>∃ k:Nat,k≤10∧k≤s.size∧c=.int .i64 k∧n=.int .u64 ((Vi.val ((Vi.nums s).take k) % 18446744073709551616:Nat):Int)∧Hid (∀ j,j<k→128≤(Vi.nums s).getD j 0)) (fun _ c=>10-(Go.RowKit.intOf c).toNat)
 case atStart=>exact ⟨0,by omega,by omega,rfl,rfl,fun j hj=>by omega⟩
 case round =>
  obtain ⟨k,hk,hks,rfl,rfl,HG⟩:=hrel
  by_cases hk10:k<10
  ·rcases Nat.lt_or_ge k s.size with hlt|hge
   ·have hbt:=Vi.nums_getD_lt s k
    have he:s[k].toNat=(Vi.nums s).getD k 0:=by
     unfold Vi.nums
     rw [List.getD_eq_getElem?_getD,List.getElem?_map,List.getElem?_eq_getElem (by simpa using hlt)];rfl
    have HS:=zh (fun Y hY=>Vi.step7b (Vi.nums s) k (by omega) (by omega) Y hY)
    generalize hv:Vi.val ((Vi.nums s).take k) % 18446744073709551616=v at *
    have HV:=zh hv
    clear hv
    by_cases hb128:128≤(Vi.nums s).getD k 0
    ·have HG':Hid (∀ j,j<k+1→128≤(Vi.nums s).getD j 0):=fun j hj=>by
      rcases Nat.lt_or_ge j k with h|h
      ·exact HG.out j h
      ·obtain rfl:j=k:=by omega
       exact hb128
     generalize (Vi.nums s).getD k 0=b at *
     have hW:IntKind.u64.wrap (b:Int)=(b:Int):=IntWalk.u64_in _ (by omega)
     have hY:(b:Int) % 128=((b % 128:Nat):Int):=by omega
     have HY:=zh hY
     clear hY
     have hb1:(128:Int)≤b:=by omega
     go_wp2
     go_round
     case rel =>
      rw [HS.out _ HY.out]
      exact ⟨k+1,by omega,by omega,by go_num,rfl,HG'⟩
     case measure=>simp [Go.RowKit.intOf];omega
    ·have HR:=zh (Vi.rtest s k HG.out hlt (by omega) (by omega))
     have HYes:Vi.okL (Vi.nums s)=true→Vi.varV s=Vi.val ((Vi.nums s).take (k+1)) % 18446744073709551616∧Vi.varO s=true∧Vi.varT s=s.extract (k+1) s.size:=by
      intro ho
      rw [Vi.okL_at _ k HG.out (by omega) (by omega) (by omega),decide_eq_true_iff] at ho
      exact Vi.var_yes s k HG.out hlt (by omega) (by omega) ho
     have HNo:=Vi.var_no s
     have HV2:Hid (Vi.val ((Vi.nums s).take (k+1)) % 18446744073709551616<18446744073709551616):=Nat.mod_lt _ (by omega)
     generalize Vi.val ((Vi.nums s).take (k+1)) % 18446744073709551616=v2 at *
     generalize (Vi.nums s).getD k 0=b at *
     have hW:IntKind.u64.wrap (b:Int)=(b:Int):=IntWalk.u64_in _ (by omega)
     have hY:(b:Int) % 128=((b % 128:Nat):Int):=by omega
     have HY:=zh hY
     clear hY
     have hb1:(b:Int)<128:=by omega
     go_wp2
     rw [HS.out _ HY.out]
     have q1:IntKind.i64.wrap ((k:Int)+1)=(k:Int)+1:=IntWalk.i64_in _ (by omega)
     have q2:0≤(k:Int)+1:=by omega
     have q3:((k:Int)+1).toNat=k+1:=by omega
     have q4:(k:Int)+1≤s.size:=by omega
     have hB:Below w.heap.size w w.drew:=(Below.refl _ _).drew
     have HYes':=zh HYes
     have HNo':=zh HNo
     clear HS HY HV HG hW he HYes HNo
     go_region_held3 (fun w'=>w'.cell? ⟨g,0,none⟩=some (.string s)) ((first|assumption|go_keep)) (first
      | (go_at_call 117;((with_reducible refine (rput_at _ g s _ HV2.out ?_).mono ?_);(first|assumption|(simp [*];done));rintro e w4 ⟨rfl,hb4,hc4⟩;replace hB:=hB.trans (hb4.mono hB.size);clear hb4)))
     rw [HR.out]
     have f4:w4.frozen? ⟨g,0,none⟩=false:=(hB.frozen (p:=⟨g,0,none⟩) h.lt).trans f0
     cases ho:Vi.okL (Vi.nums s)
     ·have HN:=zh (HNo'.out ho)
      clear ho HR q1 q2 q3 q4 f0 c0
      go_wp2_with fail
      refine (HF.out w4 hB).mono ?_
      rintro e w5 ⟨rfl,h3,h4⟩
      go_wp2
      go_ret
      obtain ⟨y1,y2,y3⟩:=HN.out
      rw [y1,y2,y3,Bool.not_false,Bool.or_true]
      exact ⟨rfl,h3,(grownBy_below hB _).trans h4⟩
     ·have HN:=zh (HYes'.out ho)
      clear ho HR q1 q2 q3 q4 f0 c0
      have hk1:(k:Int)+1≤s.size:=by omega
      go_wp2
      go_ret
      obtain ⟨y1,y2,y3⟩:=HN.out
      rw [y1,y2,y3,Bool.not_true,Bool.or_false]
      exact ⟨rfl,(h.below hB h.lt).set0 _,(grownBy_below hB _).trans (grownBy_set _)⟩
   ·have hkk:k=s.size:=by omega
    have HY:=zh (Vi.var_no s (Vi.okL_no _ k HG.out (.inr (by omega))))
    clear HG
    generalize Vi.val ((Vi.nums s).take k) % 18446744073709551616=v at *
    have hks':decide (k<s.size)=false:=decide_eq_false (by omega)
    have HKK:=zh hkk
    clear hkk
    go_wp2_with fail
    refine (HF.out w (Below.refl _ _)).mono ?_
    rintro e w5 ⟨rfl,h3,h4⟩
    go_wp2
    go_ret
    obtain ⟨y1,y2,y3⟩:=HY.out
    rw [y1,y2,y3,Bool.not_false,Bool.or_true]
    exact ⟨rfl,h3,h4⟩
  ·have hkk:k=10:=by omega
   have HY:=zh (Vi.var_no s (Vi.okL_no _ k HG.out (.inl hkk)))
   clear HG
   generalize Vi.val ((Vi.nums s).take k) % 18446744073709551616=v at *
   have HKK:=zh hkk
   clear hkk
   go_wp2_with fail
   refine (HF.out w (Below.refl _ _)).mono ?_
   rintro e w5 ⟨rfl,h3,h4⟩
   go_wp2
   go_ret
   obtain ⟨y1,y2,y3⟩:=HY.out
   rw [y1,y2,y3,Bool.not_false,Bool.or_true]
   exact ⟨rfl,h3,h4⟩
theorem Vi.sane_var (s:ByteArray) (bad:Bool) (h:Vi.Sane s bad):Vi.Sane (Vi.varT s) (bad||!Vi.varO s):=by
 intro hb
 cases ho:Vi.varO s
 ·exact (Vi.var_no s ho).2.2
 ·rw [ho] at hb
  have:=h (by simpa using hb)
  subst this
  revert ho;decide
theorem Vi.sane_byt (s:ByteArray) (bad:Bool) (n:Int) (h:Vi.Sane s bad):Vi.Sane (Vi.bytT s n) (bad||!Vi.hasB s n):=by
 intro hb
 unfold Vi.bytT
 cases ho:Vi.hasB s n
 ·rfl
 ·rw [ho] at hb
  have:=h (by simpa using hb)
  subst this
  apply ByteArray.ext;simp
namespace Vi
theorem nums_append (a b:ByteArray):nums (a++b)=nums a++nums b:=by
 unfold nums
 rw [ByteArray.data_append,Array.toList_append,List.map_append]
theorem append_assoc3 (a b c:ByteArray):a++b++c=a++(b++c):=by
 apply ByteArray.ext
 simp [ByteArray.data_append,Array.append_assoc]
theorem extract_left (a b:ByteArray):(a++b).extract 0 a.size=a:=by
 apply nums_inj
 rw [nums_extract,nums_append,List.drop_zero,Nat.sub_zero,List.take_left' (nums_length a)]
theorem extract_right (a b:ByteArray):(a++b).extract a.size (a++b).size=b:=by
 apply nums_inj
 rw [nums_extract,nums_append,List.drop_left' (nums_length a),List.take_of_length_le]
 rw [nums_length,ByteArray.size_append];omega
end Vi
end Go.Proofs.YtnobeoppffoomaaGreat
