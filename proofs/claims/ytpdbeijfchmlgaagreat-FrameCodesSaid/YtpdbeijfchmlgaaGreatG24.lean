/-
  FrameCodes: part G24.
  Conditions: named in each theorem.
-/
import Derived.Test.YtpdbeijfchmlgaaGreatZ0
import Derived.Test.YtpdbeijfchmlgaaGreatG08
import Derived.Test.YtpdbeijfchmlgaaGreatG23
set_option linter.unusedVariables false
set_option linter.unusedSimpArgs false
set_option maxHeartbeats 16000000
set_option maxRecDepth 100000
namespace Go.Proofs.YtpdbeijfchmlgaaGreat
open Go.RowKit
open Vi
section
theorem zeroI_yes (w:World):Calls Tryz.prog 166 #[.int .i64 0] w fun e w'=>e=.returned (.bool true)∧w=w':=by
 go_enter Tryz.func166,Tryz.ntmps166
 go_wp2;go_ret;exact ⟨rfl,rfl⟩
theorem zeroI_no (v:Int) (w:World) (h:v≠0):Calls Tryz.prog 166 #[.int .i64 v] w fun e w'=>e=.returned (.bool false)∧w=w':=by
 go_enter Tryz.func166,Tryz.ntmps166
 go_wp2;go_ret;exact ⟨by simp [h],rfl⟩
theorem zeroU_yes (w:World):Calls Tryz.prog 170 #[.int .u64 0] w fun e w'=>e=.returned (.bool true)∧w=w':=by
 go_enter Tryz.func170,Tryz.ntmps170
 go_wp2;go_ret;exact ⟨rfl,rfl⟩
theorem zeroU_no (v:Int) (w:World) (h:v≠0):Calls Tryz.prog 170 #[.int .u64 v] w fun e w'=>e=.returned (.bool false)∧w=w':=by
 go_enter Tryz.func170,Tryz.ntmps170
 go_wp2;go_ret;exact ⟨by simp [h],rfl⟩
theorem zeroS_yes (w:World):Calls Tryz.prog 174 #[.string ⟨#[]⟩] w fun e w'=>e=.returned (.bool true)∧w=w':=by
 go_enter Tryz.func174,Tryz.ntmps174
 go_wp2;go_ret;exact ⟨rfl,rfl⟩
theorem zeroS_no (s:ByteArray) (w:World) (h:s.size≠0):Calls Tryz.prog 174 #[.string s] w fun e w'=>e=.returned (.bool false)∧w=w':=by
 have h2:¬ s=ByteArray.empty:=fun e=>h (by rw [e];rfl)
 go_enter Tryz.func174,Tryz.ntmps174
 go_wp2;go_ret
 have h3:¬ s.toList=[]:=by
  rw [Lib.toList_data];intro e
  have:=congrArg List.length e
  exact h (by simpa using this)
 exact ⟨by simp [h2,h3],rfl⟩
theorem putNI_any (n:Nat) (w:World) (h:n<9223372036854775808):Calls Tryz.prog 167 #[.int .i64 n] w fun e w'=>e=.returned (.string (putB n))∧Below w.heap.size w w':=by
 have hw:IntKind.u64.wrap (n:Int)=(n:Int):=IntWalk.u64_in _ (by omega);have K:=zh (put_any n w (by omega));clear h
 go_enter Tryz.func167,Tryz.ntmps167
 go_wp2_with fail
 refine K.out.mono ?_;rintro e w1 ⟨rfl,hb⟩;go_wp2;go_ret;exact ⟨rfl,hb⟩
theorem putNU_any (n:Nat) (w:World) (h:n<18446744073709551616):Calls Tryz.prog 171 #[.int .u64 n] w fun e w'=>e=.returned (.string (putB n))∧Below w.heap.size w w':=by
 have K:=zh (put_any n w h);have hw:IntKind.u64.wrap (n:Int)=(n:Int):=IntWalk.u64_in _ (by omega);clear h
 go_enter Tryz.func171,Tryz.ntmps171
 go_wp2_with fail
 refine K.out.mono ?_;rintro e w1 ⟨rfl,hb⟩;go_wp2;go_ret;exact ⟨rfl,hb⟩
theorem at1_any (q:Nat) (w:World):Calls Tryz.prog 114 #[.pointer (some ⟨q,0,none⟩)] w fun e w'=>e=.returned (.pointer (some ⟨q,2,none⟩))∧w=w':=by
 go_enter Tryz.func114,Tryz.ntmps114
 go_wp2;go_ret;exact ⟨rfl,rfl⟩
theorem put1_any (q a nn p:Nat) (n:Nat) (w:World) (hc:w.cell? ⟨q,2,none⟩=some (.int .i64 n)) (ha:w.cell? ⟨a,0,none⟩=some (.func (.func 114) #[] #[])) (hn:w.cell? ⟨nn,0,none⟩=some (.func (.func 166) #[] #[])) (hp:w.cell? ⟨p,0,none⟩=some (.func (.func 167) #[] #[])) (h:n<9223372036854775808) :
 Calls Tryz.prog 194 #[.pointer (some ⟨q,0,none⟩),.pointer (some ⟨a,0,none⟩),.pointer (some ⟨nn,0,none⟩),.pointer (some ⟨p,0,none⟩)] w fun e w'=>e=.returned (.string (nb n))∧Below w.heap.size w w':=by
 have HAT:=zh (at1_any q)
 by_cases h0:n=0
 ·skip
  subst h0;have K:=zh zeroI_yes;have e0:nb ((0:Nat):Int)=⟨#[]⟩:=rfl;rw [e0];clear h e0
  go_enter Tryz.func194,Tryz.ntmps194
  go_wp2_with fail
  refine (HAT.out _).mono ?_;rintro e w1 ⟨rfl,rfl⟩
  go_wp2_with fail
  refine (K.out _).mono ?_;rintro e w1 ⟨rfl,rfl⟩;go_wp2;go_ret;exact ⟨rfl,Below.refl _ _⟩
 ·skip
  have K:=zh (fun W=>zeroI_no (n:Int) W (by omega));have K2:=zh (fun W=>putNI_any n W h);have e0:nb (n:Int)=putB n:=by unfold nb;rw [if_neg (by omega),Int.toNat_natCast]
  rw [e0];clear h e0 h0
  go_enter Tryz.func194,Tryz.ntmps194
  go_wp2_with fail
  refine (HAT.out _).mono ?_;rintro e w1 ⟨rfl,rfl⟩
  go_wp2_with fail
  refine (K.out _).mono ?_;rintro e w1 ⟨rfl,rfl⟩
  go_wp2_with fail
  refine (K2.out _).mono ?_;rintro e w1 ⟨rfl,hb⟩;go_wp2;go_ret;exact ⟨rfl,hb⟩
theorem at2_any (q:Nat) (w:World):Calls Tryz.prog 116 #[.pointer (some ⟨q,0,none⟩)] w fun e w'=>e=.returned (.pointer (some ⟨q,0,none⟩))∧w=w':=by
 go_enter Tryz.func116,Tryz.ntmps116
 go_wp2;go_ret;exact ⟨rfl,rfl⟩
theorem put2_any (q a nn p:Nat) (n:Nat) (w:World) (hc:w.cell? ⟨q,0,none⟩=some (.int .u64 n)) (ha:w.cell? ⟨a,0,none⟩=some (.func (.func 116) #[] #[])) (hn:w.cell? ⟨nn,0,none⟩=some (.func (.func 170) #[] #[])) (hp:w.cell? ⟨p,0,none⟩=some (.func (.func 171) #[] #[])) (h:n<18446744073709551616) :
 Calls Tryz.prog 197 #[.pointer (some ⟨q,0,none⟩),.pointer (some ⟨a,0,none⟩),.pointer (some ⟨nn,0,none⟩),.pointer (some ⟨p,0,none⟩)] w fun e w'=>e=.returned (.string (nb n))∧Below w.heap.size w w':=by
 have HAT:=zh (at2_any q)
 by_cases h0:n=0
 ·skip
  subst h0;have K:=zh zeroU_yes;have e0:nb ((0:Nat):Int)=⟨#[]⟩:=rfl;rw [e0];clear h e0
  go_enter Tryz.func197,Tryz.ntmps197
  go_wp2_with fail
  refine (HAT.out _).mono ?_;rintro e w1 ⟨rfl,rfl⟩
  go_wp2_with fail
  refine (K.out _).mono ?_;rintro e w1 ⟨rfl,rfl⟩;go_wp2;go_ret;exact ⟨rfl,Below.refl _ _⟩
 ·skip
  have K:=zh (fun W=>zeroU_no (n:Int) W (by omega));have K2:=zh (fun W=>putNU_any n W h);have e0:nb (n:Int)=putB n:=by unfold nb;rw [if_neg (by omega),Int.toNat_natCast]
  rw [e0];clear h e0 h0
  go_enter Tryz.func197,Tryz.ntmps197
  go_wp2_with fail
  refine (HAT.out _).mono ?_;rintro e w1 ⟨rfl,rfl⟩
  go_wp2_with fail
  refine (K.out _).mono ?_;rintro e w1 ⟨rfl,rfl⟩
  go_wp2_with fail
  refine (K2.out _).mono ?_;rintro e w1 ⟨rfl,hb⟩;go_wp2;go_ret;exact ⟨rfl,hb⟩
theorem at3_any (q:Nat) (w:World):Calls Tryz.prog 117 #[.pointer (some ⟨q,0,none⟩)] w fun e w'=>e=.returned (.pointer (some ⟨q,1,none⟩))∧w=w':=by
 go_enter Tryz.func117,Tryz.ntmps117
 go_wp2;go_ret;exact ⟨rfl,rfl⟩
theorem put3_any (q a nn p:Nat) (n:Nat) (w:World) (hc:w.cell? ⟨q,1,none⟩=some (.int .u64 n)) (ha:w.cell? ⟨a,0,none⟩=some (.func (.func 117) #[] #[])) (hn:w.cell? ⟨nn,0,none⟩=some (.func (.func 170) #[] #[])) (hp:w.cell? ⟨p,0,none⟩=some (.func (.func 171) #[] #[])) (h:n<18446744073709551616) :
 Calls Tryz.prog 197 #[.pointer (some ⟨q,0,none⟩),.pointer (some ⟨a,0,none⟩),.pointer (some ⟨nn,0,none⟩),.pointer (some ⟨p,0,none⟩)] w fun e w'=>e=.returned (.string (nb n))∧Below w.heap.size w w':=by
 have HAT:=zh (at3_any q)
 by_cases h0:n=0
 ·skip
  subst h0;have K:=zh zeroU_yes;have e0:nb ((0:Nat):Int)=⟨#[]⟩:=rfl;rw [e0];clear h e0
  go_enter Tryz.func197,Tryz.ntmps197
  go_wp2_with fail
  refine (HAT.out _).mono ?_;rintro e w1 ⟨rfl,rfl⟩
  go_wp2_with fail
  refine (K.out _).mono ?_;rintro e w1 ⟨rfl,rfl⟩;go_wp2;go_ret;exact ⟨rfl,Below.refl _ _⟩
 ·skip
  have K:=zh (fun W=>zeroU_no (n:Int) W (by omega));have K2:=zh (fun W=>putNU_any n W h);have e0:nb (n:Int)=putB n:=by unfold nb;rw [if_neg (by omega),Int.toNat_natCast]
  rw [e0];clear h e0 h0
  go_enter Tryz.func197,Tryz.ntmps197
  go_wp2_with fail
  refine (HAT.out _).mono ?_;rintro e w1 ⟨rfl,rfl⟩
  go_wp2_with fail
  refine (K.out _).mono ?_;rintro e w1 ⟨rfl,rfl⟩
  go_wp2_with fail
  refine (K2.out _).mono ?_;rintro e w1 ⟨rfl,hb⟩;go_wp2;go_ret;exact ⟨rfl,hb⟩
theorem at4_any (q:Nat) (w:World):Calls Tryz.prog 118 #[.pointer (some ⟨q,0,none⟩)] w fun e w'=>e=.returned (.pointer (some ⟨q,3,none⟩))∧w=w':=by
 go_enter Tryz.func118,Tryz.ntmps118
 go_wp2;go_ret;exact ⟨rfl,rfl⟩
theorem put4_any (q a nn p:Nat) (n:Nat) (w:World) (hc:w.cell? ⟨q,3,none⟩=some (.int .u64 n)) (ha:w.cell? ⟨a,0,none⟩=some (.func (.func 118) #[] #[])) (hn:w.cell? ⟨nn,0,none⟩=some (.func (.func 170) #[] #[])) (hp:w.cell? ⟨p,0,none⟩=some (.func (.func 171) #[] #[])) (h:n<18446744073709551616) :
 Calls Tryz.prog 197 #[.pointer (some ⟨q,0,none⟩),.pointer (some ⟨a,0,none⟩),.pointer (some ⟨nn,0,none⟩),.pointer (some ⟨p,0,none⟩)] w fun e w'=>e=.returned (.string (nb n))∧Below w.heap.size w w':=by
 have HAT:=zh (at4_any q)
 by_cases h0:n=0
 ·skip
  subst h0;have K:=zh zeroU_yes;have e0:nb ((0:Nat):Int)=⟨#[]⟩:=rfl;rw [e0];clear h e0
  go_enter Tryz.func197,Tryz.ntmps197
  go_wp2_with fail
  refine (HAT.out _).mono ?_;rintro e w1 ⟨rfl,rfl⟩
  go_wp2_with fail
  refine (K.out _).mono ?_;rintro e w1 ⟨rfl,rfl⟩;go_wp2;go_ret;exact ⟨rfl,Below.refl _ _⟩
 ·skip
  have K:=zh (fun W=>zeroU_no (n:Int) W (by omega));have K2:=zh (fun W=>putNU_any n W h);have e0:nb (n:Int)=putB n:=by unfold nb;rw [if_neg (by omega),Int.toNat_natCast]
  rw [e0];clear h e0 h0
  go_enter Tryz.func197,Tryz.ntmps197
  go_wp2_with fail
  refine (HAT.out _).mono ?_;rintro e w1 ⟨rfl,rfl⟩
  go_wp2_with fail
  refine (K.out _).mono ?_;rintro e w1 ⟨rfl,rfl⟩
  go_wp2_with fail
  refine (K2.out _).mono ?_;rintro e w1 ⟨rfl,hb⟩;go_wp2;go_ret;exact ⟨rfl,hb⟩
theorem at5_any (q:Nat) (w:World):Calls Tryz.prog 119 #[.pointer (some ⟨q,0,none⟩)] w fun e w'=>e=.returned (.pointer (some ⟨q,4,none⟩))∧w=w':=by
 go_enter Tryz.func119,Tryz.ntmps119
 go_wp2;go_ret;exact ⟨rfl,rfl⟩
theorem put5_any (q a nn p:Nat) (n:Nat) (w:World) (hc:w.cell? ⟨q,4,none⟩=some (.int .u64 n)) (ha:w.cell? ⟨a,0,none⟩=some (.func (.func 119) #[] #[])) (hn:w.cell? ⟨nn,0,none⟩=some (.func (.func 170) #[] #[])) (hp:w.cell? ⟨p,0,none⟩=some (.func (.func 171) #[] #[])) (h:n<18446744073709551616) :
 Calls Tryz.prog 197 #[.pointer (some ⟨q,0,none⟩),.pointer (some ⟨a,0,none⟩),.pointer (some ⟨nn,0,none⟩),.pointer (some ⟨p,0,none⟩)] w fun e w'=>e=.returned (.string (nb n))∧Below w.heap.size w w':=by
 have HAT:=zh (at5_any q)
 by_cases h0:n=0
 ·skip
  subst h0;have K:=zh zeroU_yes;have e0:nb ((0:Nat):Int)=⟨#[]⟩:=rfl;rw [e0];clear h e0
  go_enter Tryz.func197,Tryz.ntmps197
  go_wp2_with fail
  refine (HAT.out _).mono ?_;rintro e w1 ⟨rfl,rfl⟩
  go_wp2_with fail
  refine (K.out _).mono ?_;rintro e w1 ⟨rfl,rfl⟩;go_wp2;go_ret;exact ⟨rfl,Below.refl _ _⟩
 ·skip
  have K:=zh (fun W=>zeroU_no (n:Int) W (by omega));have K2:=zh (fun W=>putNU_any n W h);have e0:nb (n:Int)=putB n:=by unfold nb;rw [if_neg (by omega),Int.toNat_natCast]
  rw [e0];clear h e0 h0
  go_enter Tryz.func197,Tryz.ntmps197
  go_wp2_with fail
  refine (HAT.out _).mono ?_;rintro e w1 ⟨rfl,rfl⟩
  go_wp2_with fail
  refine (K.out _).mono ?_;rintro e w1 ⟨rfl,rfl⟩
  go_wp2_with fail
  refine (K2.out _).mono ?_;rintro e w1 ⟨rfl,hb⟩;go_wp2;go_ret;exact ⟨rfl,hb⟩
theorem at6_any (q:Nat) (w:World):Calls Tryz.prog 120 #[.pointer (some ⟨q,0,none⟩)] w fun e w'=>e=.returned (.pointer (some ⟨q,5,none⟩))∧w=w':=by
 go_enter Tryz.func120,Tryz.ntmps120
 go_wp2;go_ret;exact ⟨rfl,rfl⟩
theorem put6_any (q a nn p:Nat) (n:Nat) (w:World) (hc:w.cell? ⟨q,5,none⟩=some (.int .u64 n)) (ha:w.cell? ⟨a,0,none⟩=some (.func (.func 120) #[] #[])) (hn:w.cell? ⟨nn,0,none⟩=some (.func (.func 170) #[] #[])) (hp:w.cell? ⟨p,0,none⟩=some (.func (.func 171) #[] #[])) (h:n<18446744073709551616) :
 Calls Tryz.prog 197 #[.pointer (some ⟨q,0,none⟩),.pointer (some ⟨a,0,none⟩),.pointer (some ⟨nn,0,none⟩),.pointer (some ⟨p,0,none⟩)] w fun e w'=>e=.returned (.string (nb n))∧Below w.heap.size w w':=by
 have HAT:=zh (at6_any q)
 by_cases h0:n=0
 ·skip
  subst h0;have K:=zh zeroU_yes;have e0:nb ((0:Nat):Int)=⟨#[]⟩:=rfl;rw [e0];clear h e0
  go_enter Tryz.func197,Tryz.ntmps197
  go_wp2_with fail
  refine (HAT.out _).mono ?_;rintro e w1 ⟨rfl,rfl⟩
  go_wp2_with fail
  refine (K.out _).mono ?_;rintro e w1 ⟨rfl,rfl⟩;go_wp2;go_ret;exact ⟨rfl,Below.refl _ _⟩
 ·skip
  have K:=zh (fun W=>zeroU_no (n:Int) W (by omega));have K2:=zh (fun W=>putNU_any n W h);have e0:nb (n:Int)=putB n:=by unfold nb;rw [if_neg (by omega),Int.toNat_natCast]
  rw [e0];clear h e0 h0
  go_enter Tryz.func197,Tryz.ntmps197
  go_wp2_with fail
  refine (HAT.out _).mono ?_;rintro e w1 ⟨rfl,rfl⟩
  go_wp2_with fail
  refine (K.out _).mono ?_;rintro e w1 ⟨rfl,rfl⟩
  go_wp2_with fail
  refine (K2.out _).mono ?_;rintro e w1 ⟨rfl,hb⟩;go_wp2;go_ret;exact ⟨rfl,hb⟩
theorem at7_any (q:Nat) (w:World):Calls Tryz.prog 121 #[.pointer (some ⟨q,0,none⟩)] w fun e w'=>e=.returned (.pointer (some ⟨q,6,none⟩))∧w=w':=by
 go_enter Tryz.func121,Tryz.ntmps121
 go_wp2;go_ret;exact ⟨rfl,rfl⟩
theorem put7_any (q a nn p:Nat) (n:Nat) (w:World) (hc:w.cell? ⟨q,6,none⟩=some (.int .u64 n)) (ha:w.cell? ⟨a,0,none⟩=some (.func (.func 121) #[] #[])) (hn:w.cell? ⟨nn,0,none⟩=some (.func (.func 170) #[] #[])) (hp:w.cell? ⟨p,0,none⟩=some (.func (.func 171) #[] #[])) (h:n<18446744073709551616) :
 Calls Tryz.prog 197 #[.pointer (some ⟨q,0,none⟩),.pointer (some ⟨a,0,none⟩),.pointer (some ⟨nn,0,none⟩),.pointer (some ⟨p,0,none⟩)] w fun e w'=>e=.returned (.string (nb n))∧Below w.heap.size w w':=by
 have HAT:=zh (at7_any q)
 by_cases h0:n=0
 ·skip
  subst h0;have K:=zh zeroU_yes;have e0:nb ((0:Nat):Int)=⟨#[]⟩:=rfl;rw [e0];clear h e0
  go_enter Tryz.func197,Tryz.ntmps197
  go_wp2_with fail
  refine (HAT.out _).mono ?_;rintro e w1 ⟨rfl,rfl⟩
  go_wp2_with fail
  refine (K.out _).mono ?_;rintro e w1 ⟨rfl,rfl⟩;go_wp2;go_ret;exact ⟨rfl,Below.refl _ _⟩
 ·skip
  have K:=zh (fun W=>zeroU_no (n:Int) W (by omega));have K2:=zh (fun W=>putNU_any n W h);have e0:nb (n:Int)=putB n:=by unfold nb;rw [if_neg (by omega),Int.toNat_natCast]
  rw [e0];clear h e0 h0
  go_enter Tryz.func197,Tryz.ntmps197
  go_wp2_with fail
  refine (HAT.out _).mono ?_;rintro e w1 ⟨rfl,rfl⟩
  go_wp2_with fail
  refine (K.out _).mono ?_;rintro e w1 ⟨rfl,rfl⟩
  go_wp2_with fail
  refine (K2.out _).mono ?_;rintro e w1 ⟨rfl,hb⟩;go_wp2;go_ret;exact ⟨rfl,hb⟩
theorem at8_any (q:Nat) (w:World):Calls Tryz.prog 122 #[.pointer (some ⟨q,0,none⟩)] w fun e w'=>e=.returned (.pointer (some ⟨q,7,none⟩))∧w=w':=by
 go_enter Tryz.func122,Tryz.ntmps122
 go_wp2;go_ret;exact ⟨rfl,rfl⟩
theorem put8_any (q a nn p:Nat) (n:Nat) (w:World) (hc:w.cell? ⟨q,7,none⟩=some (.int .i64 n)) (ha:w.cell? ⟨a,0,none⟩=some (.func (.func 122) #[] #[])) (hn:w.cell? ⟨nn,0,none⟩=some (.func (.func 166) #[] #[])) (hp:w.cell? ⟨p,0,none⟩=some (.func (.func 167) #[] #[])) (h:n<9223372036854775808) :
 Calls Tryz.prog 194 #[.pointer (some ⟨q,0,none⟩),.pointer (some ⟨a,0,none⟩),.pointer (some ⟨nn,0,none⟩),.pointer (some ⟨p,0,none⟩)] w fun e w'=>e=.returned (.string (nb n))∧Below w.heap.size w w':=by
 have HAT:=zh (at8_any q)
 by_cases h0:n=0
 ·skip
  subst h0;have K:=zh zeroI_yes;have e0:nb ((0:Nat):Int)=⟨#[]⟩:=rfl;rw [e0];clear h e0
  go_enter Tryz.func194,Tryz.ntmps194
  go_wp2_with fail
  refine (HAT.out _).mono ?_;rintro e w1 ⟨rfl,rfl⟩
  go_wp2_with fail
  refine (K.out _).mono ?_;rintro e w1 ⟨rfl,rfl⟩;go_wp2;go_ret;exact ⟨rfl,Below.refl _ _⟩
 ·skip
  have K:=zh (fun W=>zeroI_no (n:Int) W (by omega));have K2:=zh (fun W=>putNI_any n W h);have e0:nb (n:Int)=putB n:=by unfold nb;rw [if_neg (by omega),Int.toNat_natCast]
  rw [e0];clear h e0 h0
  go_enter Tryz.func194,Tryz.ntmps194
  go_wp2_with fail
  refine (HAT.out _).mono ?_;rintro e w1 ⟨rfl,rfl⟩
  go_wp2_with fail
  refine (K.out _).mono ?_;rintro e w1 ⟨rfl,rfl⟩
  go_wp2_with fail
  refine (K2.out _).mono ?_;rintro e w1 ⟨rfl,hb⟩;go_wp2;go_ret;exact ⟨rfl,hb⟩
theorem at9_any (q:Nat) (w:World):Calls Tryz.prog 123 #[.pointer (some ⟨q,0,none⟩)] w fun e w'=>e=.returned (.pointer (some ⟨q,8,none⟩))∧w=w':=by
 go_enter Tryz.func123,Tryz.ntmps123
 go_wp2;go_ret;exact ⟨rfl,rfl⟩
theorem put9_any (q a nn p:Nat) (n:Nat) (w:World) (hc:w.cell? ⟨q,8,none⟩=some (.int .i64 n)) (ha:w.cell? ⟨a,0,none⟩=some (.func (.func 123) #[] #[])) (hn:w.cell? ⟨nn,0,none⟩=some (.func (.func 166) #[] #[])) (hp:w.cell? ⟨p,0,none⟩=some (.func (.func 167) #[] #[])) (h:n<9223372036854775808) :
 Calls Tryz.prog 194 #[.pointer (some ⟨q,0,none⟩),.pointer (some ⟨a,0,none⟩),.pointer (some ⟨nn,0,none⟩),.pointer (some ⟨p,0,none⟩)] w fun e w'=>e=.returned (.string (nb n))∧Below w.heap.size w w':=by
 have HAT:=zh (at9_any q)
 by_cases h0:n=0
 ·skip
  subst h0;have K:=zh zeroI_yes;have e0:nb ((0:Nat):Int)=⟨#[]⟩:=rfl;rw [e0];clear h e0
  go_enter Tryz.func194,Tryz.ntmps194
  go_wp2_with fail
  refine (HAT.out _).mono ?_;rintro e w1 ⟨rfl,rfl⟩
  go_wp2_with fail
  refine (K.out _).mono ?_;rintro e w1 ⟨rfl,rfl⟩;go_wp2;go_ret;exact ⟨rfl,Below.refl _ _⟩
 ·skip
  have K:=zh (fun W=>zeroI_no (n:Int) W (by omega));have K2:=zh (fun W=>putNI_any n W h);have e0:nb (n:Int)=putB n:=by unfold nb;rw [if_neg (by omega),Int.toNat_natCast]
  rw [e0];clear h e0 h0
  go_enter Tryz.func194,Tryz.ntmps194
  go_wp2_with fail
  refine (HAT.out _).mono ?_;rintro e w1 ⟨rfl,rfl⟩
  go_wp2_with fail
  refine (K.out _).mono ?_;rintro e w1 ⟨rfl,rfl⟩
  go_wp2_with fail
  refine (K2.out _).mono ?_;rintro e w1 ⟨rfl,hb⟩;go_wp2;go_ret;exact ⟨rfl,hb⟩
theorem at10_any (q:Nat) (w:World):Calls Tryz.prog 125 #[.pointer (some ⟨q,0,none⟩)] w fun e w'=>e=.returned (.pointer (some ⟨q,9,none⟩))∧w=w':=by
 go_enter Tryz.func125,Tryz.ntmps125
 go_wp2;go_ret;exact ⟨rfl,rfl⟩
theorem put10_any (q a nn p:Nat) (d:ByteArray) (w:World) (hc:w.cell? ⟨q,9,none⟩=some (.string d)) (ha:w.cell? ⟨a,0,none⟩=some (.func (.func 125) #[] #[])) (hn:w.cell? ⟨nn,0,none⟩=some (.func (.func 174) #[] #[])) (hp:w.cell? ⟨p,0,none⟩=some (.func (.func 175) #[] #[])) (h:d.size≤140737488355328) :
 Calls Tryz.prog 200 #[.pointer (some ⟨q,0,none⟩),.pointer (some ⟨a,0,none⟩),.pointer (some ⟨nn,0,none⟩),.pointer (some ⟨p,0,none⟩)] w fun e w'=>e=.returned (.string (tb d))∧Below w.heap.size w w':=by
 have HAT:=zh (at10_any q)
 by_cases h0:d.size=0
 ·skip
  have hd:=(size0 d).1 h0;subst hd;have e0:tb ⟨#[]⟩=⟨#[]⟩:=rfl;rw [e0];have K:=zh zeroS_yes;clear h e0 h0
  go_enter Tryz.func200,Tryz.ntmps200
  go_wp2_with fail
  refine (HAT.out _).mono ?_;rintro e w1 ⟨rfl,rfl⟩
  go_wp2_with fail
  refine (K.out _).mono ?_;rintro e w1 ⟨rfl,rfl⟩;go_wp2;go_ret;exact ⟨rfl,Below.refl _ _⟩
 ·skip
  have K:=zh (fun W=>zeroS_no d W h0);have K2:=zh (fun W=>text_any d W h);have e0:tb d=putB d.size++d:=by unfold tb;rw [if_neg h0]
  rw [e0];clear h e0 h0
  go_enter Tryz.func200,Tryz.ntmps200
  go_wp2_with fail
  refine (HAT.out _).mono ?_;rintro e w1 ⟨rfl,rfl⟩
  go_wp2_with fail
  refine (K.out _).mono ?_;rintro e w1 ⟨rfl,rfl⟩
  go_wp2_with fail
  refine (K2.out _).mono ?_;rintro e w1 ⟨rfl,hb⟩;go_wp2;go_ret;exact ⟨rfl,hb⟩
theorem at11_any (q:Nat) (w:World):Calls Tryz.prog 126 #[.pointer (some ⟨q,0,none⟩)] w fun e w'=>e=.returned (.pointer (some ⟨q,10,none⟩))∧w=w':=by
 go_enter Tryz.func126,Tryz.ntmps126
 go_wp2;go_ret;exact ⟨rfl,rfl⟩
theorem put11_any (q a nn p:Nat) (d:ByteArray) (w:World) (hc:w.cell? ⟨q,10,none⟩=some (.string d)) (ha:w.cell? ⟨a,0,none⟩=some (.func (.func 126) #[] #[])) (hn:w.cell? ⟨nn,0,none⟩=some (.func (.func 174) #[] #[])) (hp:w.cell? ⟨p,0,none⟩=some (.func (.func 175) #[] #[])) (h:d.size≤140737488355328) :
 Calls Tryz.prog 200 #[.pointer (some ⟨q,0,none⟩),.pointer (some ⟨a,0,none⟩),.pointer (some ⟨nn,0,none⟩),.pointer (some ⟨p,0,none⟩)] w fun e w'=>e=.returned (.string (tb d))∧Below w.heap.size w w':=by
 have HAT:=zh (at11_any q)
 by_cases h0:d.size=0
 ·skip
  have hd:=(size0 d).1 h0;subst hd;have e0:tb ⟨#[]⟩=⟨#[]⟩:=rfl;rw [e0];have K:=zh zeroS_yes;clear h e0 h0
  go_enter Tryz.func200,Tryz.ntmps200
  go_wp2_with fail
  refine (HAT.out _).mono ?_;rintro e w1 ⟨rfl,rfl⟩
  go_wp2_with fail
  refine (K.out _).mono ?_;rintro e w1 ⟨rfl,rfl⟩;go_wp2;go_ret;exact ⟨rfl,Below.refl _ _⟩
 ·skip
  have K:=zh (fun W=>zeroS_no d W h0);have K2:=zh (fun W=>text_any d W h);have e0:tb d=putB d.size++d:=by unfold tb;rw [if_neg h0]
  rw [e0];clear h e0 h0
  go_enter Tryz.func200,Tryz.ntmps200
  go_wp2_with fail
  refine (HAT.out _).mono ?_;rintro e w1 ⟨rfl,rfl⟩
  go_wp2_with fail
  refine (K.out _).mono ?_;rintro e w1 ⟨rfl,rfl⟩
  go_wp2_with fail
  refine (K2.out _).mono ?_;rintro e w1 ⟨rfl,hb⟩;go_wp2;go_ret;exact ⟨rfl,hb⟩
end
end Go.Proofs.YtpdbeijfchmlgaaGreat
