/-
  WalPlays: SPf.
  Conditions: named in each theorem.
-/
import Derived.Test.YtnobeoppffoomaaGreatP21
import Derived.Test.YtnobeoppffoomaaGreatP22
import Derived.Test.YtnobeoppffoomaaGreatP0
set_option linter.unusedVariables false
set_option linter.unusedSimpArgs false
set_option maxHeartbeats 8000000
set_option maxRecDepth 100000
namespace Go.Proofs.YtnobeoppffoomaaGreat
open Go.RowKit
open Vi
section
set_option maxRecDepth 100000
set_option maxHeartbeats 400000
theorem zeroI_yes (w:World):Calls Tryz.prog 173 #[.int .i64 0] w fun e w'=>e=.returned (.bool true)∧w=w':=by
 go_enter Tryz.func173,Tryz.ntmps173
 go_wp2
 go_ret
 exact ⟨rfl,rfl⟩
theorem zeroI_no (v:Int) (w:World) (h:v≠0):Calls Tryz.prog 173 #[.int .i64 v] w fun e w'=>e=.returned (.bool false)∧w=w':=by
 go_enter Tryz.func173,Tryz.ntmps173
 go_wp2
 go_ret
 exact ⟨by simp [h],rfl⟩
theorem zeroU_yes (w:World):Calls Tryz.prog 177 #[.int .u64 0] w fun e w'=>e=.returned (.bool true)∧w=w':=by
 go_enter Tryz.func177,Tryz.ntmps177
 go_wp2
 go_ret
 exact ⟨rfl,rfl⟩
theorem zeroU_no (v:Int) (w:World) (h:v≠0):Calls Tryz.prog 177 #[.int .u64 v] w fun e w'=>e=.returned (.bool false)∧w=w':=by
 go_enter Tryz.func177,Tryz.ntmps177
 go_wp2
 go_ret
 exact ⟨by simp [h],rfl⟩
theorem zeroS_yes (w:World):Calls Tryz.prog 181 #[.string ⟨#[]⟩] w fun e w'=>e=.returned (.bool true)∧w=w':=by
 go_enter Tryz.func181,Tryz.ntmps181
 go_wp2
 go_ret
 exact ⟨rfl,rfl⟩
theorem zeroS_no (s:ByteArray) (w:World) (h:s.size≠0):Calls Tryz.prog 181 #[.string s] w fun e w'=>e=.returned (.bool false)∧w=w':=by
 have h2:¬ s=ByteArray.empty:=fun e=>h (by rw [e];rfl)
 go_enter Tryz.func181,Tryz.ntmps181
 go_wp2
 go_ret
 have h3:¬ s.toList=[]:=by
  rw [Lib.toList_data]
  intro e
  have:=congrArg List.length e
  exact h (by simpa using this)
 exact ⟨by simp [h2,h3],rfl⟩
theorem putNI_any (n:Nat) (w:World) (h:n<9223372036854775808):Calls Tryz.prog 174 #[.int .i64 n] w fun e w'=>e=.returned (.string (putB n))∧Below w.heap.size w w':=by
 have hw:IntKind.u64.wrap (n:Int)=(n:Int):=IntWalk.u64_in _ (by omega)
 have K:=zh (put_any n w (by omega))
 clear h
 go_enter Tryz.func174,Tryz.ntmps174
 go_wp2_with fail
 refine K.out.mono ?_
 rintro e w1 ⟨rfl,hb⟩
 go_wp2
 go_ret
 exact ⟨rfl,hb⟩
theorem putNU_any (n:Nat) (w:World) (h:n<18446744073709551616):Calls Tryz.prog 178 #[.int .u64 n] w fun e w'=>e=.returned (.string (putB n))∧Below w.heap.size w w':=by
 have K:=zh (put_any n w h)
 have hw:IntKind.u64.wrap (n:Int)=(n:Int):=IntWalk.u64_in _ (by omega)
 clear h
 go_enter Tryz.func178,Tryz.ntmps178
 go_wp2_with fail
 refine K.out.mono ?_
 rintro e w1 ⟨rfl,hb⟩
 go_wp2
 go_ret
 exact ⟨rfl,hb⟩
theorem at1_any (q:Nat) (w:World):Calls Tryz.prog 137 #[.pointer (some ⟨q,0,none⟩)] w fun e w'=>e=.returned (.pointer (some ⟨q,2,none⟩))∧w=w':=by
 go_enter Tryz.func137,Tryz.ntmps137
 go_wp2
 go_ret
 exact ⟨rfl,rfl⟩
theorem put1_any (q a nn p:Nat) (n:Nat) (w:World) (hc:w.cell? ⟨q,2,none⟩=some (.int .i64 n)) (ha:w.cell? ⟨a,0,none⟩=some (.func (.func 137) #[] #[])) (hn:w.cell? ⟨nn,0,none⟩=some (.func (.func 173) #[] #[])) (hp:w.cell? ⟨p,0,none⟩=some (.func (.func 174) #[] #[])) (h:n<9223372036854775808) :
 Calls Tryz.prog 195 #[.pointer (some ⟨q,0,none⟩),.pointer (some ⟨a,0,none⟩),.pointer (some ⟨nn,0,none⟩),.pointer (some ⟨p,0,none⟩)] w fun e w'=>e=.returned (.string (nb n))∧Below w.heap.size w w':=by
 have HAT:=zh (at1_any q)
 by_cases h0:n=0
 ·skip
  subst h0
  have K:=zh zeroI_yes
  have e0:nb ((0:Nat):Int)=⟨#[]⟩:=rfl
  rw [e0]
  clear h e0
  go_enter Tryz.func195,Tryz.ntmps195
  go_wp2_with fail
  refine (HAT.out _).mono ?_
  rintro e w1 ⟨rfl,rfl⟩
  go_wp2_with fail
  refine (K.out _).mono ?_
  rintro e w1 ⟨rfl,rfl⟩
  go_wp2
  go_ret
  exact ⟨rfl,Below.refl _ _⟩
 ·skip
  have K:=zh (fun W=>zeroI_no (n:Int) W (by omega))
  have K2:=zh (fun W=>putNI_any n W h)
  have e0:nb (n:Int)=putB n:=by unfold nb;rw [if_neg (by omega),Int.toNat_natCast]
  rw [e0]
  clear h e0 h0
  go_enter Tryz.func195,Tryz.ntmps195
  go_wp2_with fail
  refine (HAT.out _).mono ?_
  rintro e w1 ⟨rfl,rfl⟩
  go_wp2_with fail
  refine (K.out _).mono ?_
  rintro e w1 ⟨rfl,rfl⟩
  go_wp2_with fail
  refine (K2.out _).mono ?_
  rintro e w1 ⟨rfl,hb⟩
  go_wp2
  go_ret
  exact ⟨rfl,hb⟩
theorem at2_any (q:Nat) (w:World):Calls Tryz.prog 139 #[.pointer (some ⟨q,0,none⟩)] w fun e w'=>e=.returned (.pointer (some ⟨q,0,none⟩))∧w=w':=by
 go_enter Tryz.func139,Tryz.ntmps139
 go_wp2
 go_ret
 exact ⟨rfl,rfl⟩
theorem put2_any (q a nn p:Nat) (n:Nat) (w:World) (hc:w.cell? ⟨q,0,none⟩=some (.int .u64 n)) (ha:w.cell? ⟨a,0,none⟩=some (.func (.func 139) #[] #[])) (hn:w.cell? ⟨nn,0,none⟩=some (.func (.func 177) #[] #[])) (hp:w.cell? ⟨p,0,none⟩=some (.func (.func 178) #[] #[])) (h:n<18446744073709551616) :
 Calls Tryz.prog 198 #[.pointer (some ⟨q,0,none⟩),.pointer (some ⟨a,0,none⟩),.pointer (some ⟨nn,0,none⟩),.pointer (some ⟨p,0,none⟩)] w fun e w'=>e=.returned (.string (nb n))∧Below w.heap.size w w':=by
 have HAT:=zh (at2_any q)
 by_cases h0:n=0
 ·skip
  subst h0
  have K:=zh zeroU_yes
  have e0:nb ((0:Nat):Int)=⟨#[]⟩:=rfl
  rw [e0]
  clear h e0
  go_enter Tryz.func198,Tryz.ntmps198
  go_wp2_with fail
  refine (HAT.out _).mono ?_
  rintro e w1 ⟨rfl,rfl⟩
  go_wp2_with fail
  refine (K.out _).mono ?_
  rintro e w1 ⟨rfl,rfl⟩
  go_wp2
  go_ret
  exact ⟨rfl,Below.refl _ _⟩
 ·skip
  have K:=zh (fun W=>zeroU_no (n:Int) W (by omega))
  have K2:=zh (fun W=>putNU_any n W h)
  have e0:nb (n:Int)=putB n:=by unfold nb;rw [if_neg (by omega),Int.toNat_natCast]
  rw [e0]
  clear h e0 h0
  go_enter Tryz.func198,Tryz.ntmps198
  go_wp2_with fail
  refine (HAT.out _).mono ?_
  rintro e w1 ⟨rfl,rfl⟩
  go_wp2_with fail
  refine (K.out _).mono ?_
  rintro e w1 ⟨rfl,rfl⟩
  go_wp2_with fail
  refine (K2.out _).mono ?_
  rintro e w1 ⟨rfl,hb⟩
  go_wp2
  go_ret
  exact ⟨rfl,hb⟩
theorem at3_any (q:Nat) (w:World):Calls Tryz.prog 140 #[.pointer (some ⟨q,0,none⟩)] w fun e w'=>e=.returned (.pointer (some ⟨q,1,none⟩))∧w=w':=by
 go_enter Tryz.func140,Tryz.ntmps140
 go_wp2
 go_ret
 exact ⟨rfl,rfl⟩
theorem put3_any (q a nn p:Nat) (n:Nat) (w:World) (hc:w.cell? ⟨q,1,none⟩=some (.int .u64 n)) (ha:w.cell? ⟨a,0,none⟩=some (.func (.func 140) #[] #[])) (hn:w.cell? ⟨nn,0,none⟩=some (.func (.func 177) #[] #[])) (hp:w.cell? ⟨p,0,none⟩=some (.func (.func 178) #[] #[])) (h:n<18446744073709551616) :
 Calls Tryz.prog 198 #[.pointer (some ⟨q,0,none⟩),.pointer (some ⟨a,0,none⟩),.pointer (some ⟨nn,0,none⟩),.pointer (some ⟨p,0,none⟩)] w fun e w'=>e=.returned (.string (nb n))∧Below w.heap.size w w':=by
 have HAT:=zh (at3_any q)
 by_cases h0:n=0
 ·skip
  subst h0
  have K:=zh zeroU_yes
  have e0:nb ((0:Nat):Int)=⟨#[]⟩:=rfl
  rw [e0]
  clear h e0
  go_enter Tryz.func198,Tryz.ntmps198
  go_wp2_with fail
  refine (HAT.out _).mono ?_
  rintro e w1 ⟨rfl,rfl⟩
  go_wp2_with fail
  refine (K.out _).mono ?_
  rintro e w1 ⟨rfl,rfl⟩
  go_wp2
  go_ret
  exact ⟨rfl,Below.refl _ _⟩
 ·skip
  have K:=zh (fun W=>zeroU_no (n:Int) W (by omega))
  have K2:=zh (fun W=>putNU_any n W h)
  have e0:nb (n:Int)=putB n:=by unfold nb;rw [if_neg (by omega),Int.toNat_natCast]
  rw [e0]
  clear h e0 h0
  go_enter Tryz.func198,Tryz.ntmps198
  go_wp2_with fail
  refine (HAT.out _).mono ?_
  rintro e w1 ⟨rfl,rfl⟩
  go_wp2_with fail
  refine (K.out _).mono ?_
  rintro e w1 ⟨rfl,rfl⟩
  go_wp2_with fail
  refine (K2.out _).mono ?_
  rintro e w1 ⟨rfl,hb⟩
  go_wp2
  go_ret
  exact ⟨rfl,hb⟩
theorem at4_any (q:Nat) (w:World):Calls Tryz.prog 141 #[.pointer (some ⟨q,0,none⟩)] w fun e w'=>e=.returned (.pointer (some ⟨q,3,none⟩))∧w=w':=by
 go_enter Tryz.func141,Tryz.ntmps141
 go_wp2
 go_ret
 exact ⟨rfl,rfl⟩
theorem put4_any (q a nn p:Nat) (n:Nat) (w:World) (hc:w.cell? ⟨q,3,none⟩=some (.int .u64 n)) (ha:w.cell? ⟨a,0,none⟩=some (.func (.func 141) #[] #[])) (hn:w.cell? ⟨nn,0,none⟩=some (.func (.func 177) #[] #[])) (hp:w.cell? ⟨p,0,none⟩=some (.func (.func 178) #[] #[])) (h:n<18446744073709551616) :
 Calls Tryz.prog 198 #[.pointer (some ⟨q,0,none⟩),.pointer (some ⟨a,0,none⟩),.pointer (some ⟨nn,0,none⟩),.pointer (some ⟨p,0,none⟩)] w fun e w'=>e=.returned (.string (nb n))∧Below w.heap.size w w':=by
 have HAT:=zh (at4_any q)
 by_cases h0:n=0
 ·skip
  subst h0
  have K:=zh zeroU_yes
  have e0:nb ((0:Nat):Int)=⟨#[]⟩:=rfl
  rw [e0]
  clear h e0
  go_enter Tryz.func198,Tryz.ntmps198
  go_wp2_with fail
  refine (HAT.out _).mono ?_
  rintro e w1 ⟨rfl,rfl⟩
  go_wp2_with fail
  refine (K.out _).mono ?_
  rintro e w1 ⟨rfl,rfl⟩
  go_wp2
  go_ret
  exact ⟨rfl,Below.refl _ _⟩
 ·skip
  have K:=zh (fun W=>zeroU_no (n:Int) W (by omega))
  have K2:=zh (fun W=>putNU_any n W h)
  have e0:nb (n:Int)=putB n:=by unfold nb;rw [if_neg (by omega),Int.toNat_natCast]
  rw [e0]
  clear h e0 h0
  go_enter Tryz.func198,Tryz.ntmps198
  go_wp2_with fail
  refine (HAT.out _).mono ?_
  rintro e w1 ⟨rfl,rfl⟩
  go_wp2_with fail
  refine (K.out _).mono ?_
  rintro e w1 ⟨rfl,rfl⟩
  go_wp2_with fail
  refine (K2.out _).mono ?_
  rintro e w1 ⟨rfl,hb⟩
  go_wp2
  go_ret
  exact ⟨rfl,hb⟩
theorem at5_any (q:Nat) (w:World):Calls Tryz.prog 142 #[.pointer (some ⟨q,0,none⟩)] w fun e w'=>e=.returned (.pointer (some ⟨q,4,none⟩))∧w=w':=by
 go_enter Tryz.func142,Tryz.ntmps142
 go_wp2
 go_ret
 exact ⟨rfl,rfl⟩
theorem put5_any (q a nn p:Nat) (n:Nat) (w:World) (hc:w.cell? ⟨q,4,none⟩=some (.int .u64 n)) (ha:w.cell? ⟨a,0,none⟩=some (.func (.func 142) #[] #[])) (hn:w.cell? ⟨nn,0,none⟩=some (.func (.func 177) #[] #[])) (hp:w.cell? ⟨p,0,none⟩=some (.func (.func 178) #[] #[])) (h:n<18446744073709551616) :
 Calls Tryz.prog 198 #[.pointer (some ⟨q,0,none⟩),.pointer (some ⟨a,0,none⟩),.pointer (some ⟨nn,0,none⟩),.pointer (some ⟨p,0,none⟩)] w fun e w'=>e=.returned (.string (nb n))∧Below w.heap.size w w':=by
 have HAT:=zh (at5_any q)
 by_cases h0:n=0
 ·skip
  subst h0
  have K:=zh zeroU_yes
  have e0:nb ((0:Nat):Int)=⟨#[]⟩:=rfl
  rw [e0]
  clear h e0
  go_enter Tryz.func198,Tryz.ntmps198
  go_wp2_with fail
  refine (HAT.out _).mono ?_
  rintro e w1 ⟨rfl,rfl⟩
  go_wp2_with fail
  refine (K.out _).mono ?_
  rintro e w1 ⟨rfl,rfl⟩
  go_wp2
  go_ret
  exact ⟨rfl,Below.refl _ _⟩
 ·skip
  have K:=zh (fun W=>zeroU_no (n:Int) W (by omega))
  have K2:=zh (fun W=>putNU_any n W h)
  have e0:nb (n:Int)=putB n:=by unfold nb;rw [if_neg (by omega),Int.toNat_natCast]
  rw [e0]
  clear h e0 h0
  go_enter Tryz.func198,Tryz.ntmps198
  go_wp2_with fail
  refine (HAT.out _).mono ?_
  rintro e w1 ⟨rfl,rfl⟩
  go_wp2_with fail
  refine (K.out _).mono ?_
  rintro e w1 ⟨rfl,rfl⟩
  go_wp2_with fail
  refine (K2.out _).mono ?_
  rintro e w1 ⟨rfl,hb⟩
  go_wp2
  go_ret
  exact ⟨rfl,hb⟩
theorem at6_any (q:Nat) (w:World):Calls Tryz.prog 143 #[.pointer (some ⟨q,0,none⟩)] w fun e w'=>e=.returned (.pointer (some ⟨q,5,none⟩))∧w=w':=by
 go_enter Tryz.func143,Tryz.ntmps143
 go_wp2
 go_ret
 exact ⟨rfl,rfl⟩
theorem put6_any (q a nn p:Nat) (n:Nat) (w:World) (hc:w.cell? ⟨q,5,none⟩=some (.int .u64 n)) (ha:w.cell? ⟨a,0,none⟩=some (.func (.func 143) #[] #[])) (hn:w.cell? ⟨nn,0,none⟩=some (.func (.func 177) #[] #[])) (hp:w.cell? ⟨p,0,none⟩=some (.func (.func 178) #[] #[])) (h:n<18446744073709551616) :
 Calls Tryz.prog 198 #[.pointer (some ⟨q,0,none⟩),.pointer (some ⟨a,0,none⟩),.pointer (some ⟨nn,0,none⟩),.pointer (some ⟨p,0,none⟩)] w fun e w'=>e=.returned (.string (nb n))∧Below w.heap.size w w':=by
 have HAT:=zh (at6_any q)
 by_cases h0:n=0
 ·skip
  subst h0
  have K:=zh zeroU_yes
  have e0:nb ((0:Nat):Int)=⟨#[]⟩:=rfl
  rw [e0]
  clear h e0
  go_enter Tryz.func198,Tryz.ntmps198
  go_wp2_with fail
  refine (HAT.out _).mono ?_
  rintro e w1 ⟨rfl,rfl⟩
  go_wp2_with fail
  refine (K.out _).mono ?_
  rintro e w1 ⟨rfl,rfl⟩
  go_wp2
  go_ret
  exact ⟨rfl,Below.refl _ _⟩
 ·skip
  have K:=zh (fun W=>zeroU_no (n:Int) W (by omega))
  have K2:=zh (fun W=>putNU_any n W h)
  have e0:nb (n:Int)=putB n:=by unfold nb;rw [if_neg (by omega),Int.toNat_natCast]
  rw [e0]
  clear h e0 h0
  go_enter Tryz.func198,Tryz.ntmps198
  go_wp2_with fail
  refine (HAT.out _).mono ?_
  rintro e w1 ⟨rfl,rfl⟩
  go_wp2_with fail
  refine (K.out _).mono ?_
  rintro e w1 ⟨rfl,rfl⟩
  go_wp2_with fail
  refine (K2.out _).mono ?_
  rintro e w1 ⟨rfl,hb⟩
  go_wp2
  go_ret
  exact ⟨rfl,hb⟩
theorem at7_any (q:Nat) (w:World):Calls Tryz.prog 144 #[.pointer (some ⟨q,0,none⟩)] w fun e w'=>e=.returned (.pointer (some ⟨q,6,none⟩))∧w=w':=by
 go_enter Tryz.func144,Tryz.ntmps144
 go_wp2
 go_ret
 exact ⟨rfl,rfl⟩
theorem put7_any (q a nn p:Nat) (n:Nat) (w:World) (hc:w.cell? ⟨q,6,none⟩=some (.int .u64 n)) (ha:w.cell? ⟨a,0,none⟩=some (.func (.func 144) #[] #[])) (hn:w.cell? ⟨nn,0,none⟩=some (.func (.func 177) #[] #[])) (hp:w.cell? ⟨p,0,none⟩=some (.func (.func 178) #[] #[])) (h:n<18446744073709551616) :
 Calls Tryz.prog 198 #[.pointer (some ⟨q,0,none⟩),.pointer (some ⟨a,0,none⟩),.pointer (some ⟨nn,0,none⟩),.pointer (some ⟨p,0,none⟩)] w fun e w'=>e=.returned (.string (nb n))∧Below w.heap.size w w':=by
 have HAT:=zh (at7_any q)
 by_cases h0:n=0
 ·skip
  subst h0
  have K:=zh zeroU_yes
  have e0:nb ((0:Nat):Int)=⟨#[]⟩:=rfl
  rw [e0]
  clear h e0
  go_enter Tryz.func198,Tryz.ntmps198
  go_wp2_with fail
  refine (HAT.out _).mono ?_
  rintro e w1 ⟨rfl,rfl⟩
  go_wp2_with fail
  refine (K.out _).mono ?_
  rintro e w1 ⟨rfl,rfl⟩
  go_wp2
  go_ret
  exact ⟨rfl,Below.refl _ _⟩
 ·skip
  have K:=zh (fun W=>zeroU_no (n:Int) W (by omega))
  have K2:=zh (fun W=>putNU_any n W h)
  have e0:nb (n:Int)=putB n:=by unfold nb;rw [if_neg (by omega),Int.toNat_natCast]
  rw [e0]
  clear h e0 h0
  go_enter Tryz.func198,Tryz.ntmps198
  go_wp2_with fail
  refine (HAT.out _).mono ?_
  rintro e w1 ⟨rfl,rfl⟩
  go_wp2_with fail
  refine (K.out _).mono ?_
  rintro e w1 ⟨rfl,rfl⟩
  go_wp2_with fail
  refine (K2.out _).mono ?_
  rintro e w1 ⟨rfl,hb⟩
  go_wp2
  go_ret
  exact ⟨rfl,hb⟩
theorem at8_any (q:Nat) (w:World):Calls Tryz.prog 145 #[.pointer (some ⟨q,0,none⟩)] w fun e w'=>e=.returned (.pointer (some ⟨q,7,none⟩))∧w=w':=by
 go_enter Tryz.func145,Tryz.ntmps145
 go_wp2
 go_ret
 exact ⟨rfl,rfl⟩
theorem put8_any (q a nn p:Nat) (n:Nat) (w:World) (hc:w.cell? ⟨q,7,none⟩=some (.int .i64 n)) (ha:w.cell? ⟨a,0,none⟩=some (.func (.func 145) #[] #[])) (hn:w.cell? ⟨nn,0,none⟩=some (.func (.func 173) #[] #[])) (hp:w.cell? ⟨p,0,none⟩=some (.func (.func 174) #[] #[])) (h:n<9223372036854775808) :
 Calls Tryz.prog 195 #[.pointer (some ⟨q,0,none⟩),.pointer (some ⟨a,0,none⟩),.pointer (some ⟨nn,0,none⟩),.pointer (some ⟨p,0,none⟩)] w fun e w'=>e=.returned (.string (nb n))∧Below w.heap.size w w':=by
 have HAT:=zh (at8_any q)
 by_cases h0:n=0
 ·skip
  subst h0
  have K:=zh zeroI_yes
  have e0:nb ((0:Nat):Int)=⟨#[]⟩:=rfl
  rw [e0]
  clear h e0
  go_enter Tryz.func195,Tryz.ntmps195
  go_wp2_with fail
  refine (HAT.out _).mono ?_
  rintro e w1 ⟨rfl,rfl⟩
  go_wp2_with fail
  refine (K.out _).mono ?_
  rintro e w1 ⟨rfl,rfl⟩
  go_wp2
  go_ret
  exact ⟨rfl,Below.refl _ _⟩
 ·skip
  have K:=zh (fun W=>zeroI_no (n:Int) W (by omega))
  have K2:=zh (fun W=>putNI_any n W h)
  have e0:nb (n:Int)=putB n:=by unfold nb;rw [if_neg (by omega),Int.toNat_natCast]
  rw [e0]
  clear h e0 h0
  go_enter Tryz.func195,Tryz.ntmps195
  go_wp2_with fail
  refine (HAT.out _).mono ?_
  rintro e w1 ⟨rfl,rfl⟩
  go_wp2_with fail
  refine (K.out _).mono ?_
  rintro e w1 ⟨rfl,rfl⟩
  go_wp2_with fail
  refine (K2.out _).mono ?_
  rintro e w1 ⟨rfl,hb⟩
  go_wp2
  go_ret
  exact ⟨rfl,hb⟩
theorem at9_any (q:Nat) (w:World):Calls Tryz.prog 146 #[.pointer (some ⟨q,0,none⟩)] w fun e w'=>e=.returned (.pointer (some ⟨q,8,none⟩))∧w=w':=by
 go_enter Tryz.func146,Tryz.ntmps146
 go_wp2
 go_ret
 exact ⟨rfl,rfl⟩
theorem put9_any (q a nn p:Nat) (n:Nat) (w:World) (hc:w.cell? ⟨q,8,none⟩=some (.int .i64 n)) (ha:w.cell? ⟨a,0,none⟩=some (.func (.func 146) #[] #[])) (hn:w.cell? ⟨nn,0,none⟩=some (.func (.func 173) #[] #[])) (hp:w.cell? ⟨p,0,none⟩=some (.func (.func 174) #[] #[])) (h:n<9223372036854775808) :
 Calls Tryz.prog 195 #[.pointer (some ⟨q,0,none⟩),.pointer (some ⟨a,0,none⟩),.pointer (some ⟨nn,0,none⟩),.pointer (some ⟨p,0,none⟩)] w fun e w'=>e=.returned (.string (nb n))∧Below w.heap.size w w':=by
 have HAT:=zh (at9_any q)
 by_cases h0:n=0
 ·skip
  subst h0
  have K:=zh zeroI_yes
  have e0:nb ((0:Nat):Int)=⟨#[]⟩:=rfl
  rw [e0]
  clear h e0
  go_enter Tryz.func195,Tryz.ntmps195
  go_wp2_with fail
  refine (HAT.out _).mono ?_
  rintro e w1 ⟨rfl,rfl⟩
  go_wp2_with fail
  refine (K.out _).mono ?_
  rintro e w1 ⟨rfl,rfl⟩
  go_wp2
  go_ret
  exact ⟨rfl,Below.refl _ _⟩
 ·skip
  have K:=zh (fun W=>zeroI_no (n:Int) W (by omega))
  have K2:=zh (fun W=>putNI_any n W h)
  have e0:nb (n:Int)=putB n:=by unfold nb;rw [if_neg (by omega),Int.toNat_natCast]
  rw [e0]
  clear h e0 h0
  go_enter Tryz.func195,Tryz.ntmps195
  go_wp2_with fail
  refine (HAT.out _).mono ?_
  rintro e w1 ⟨rfl,rfl⟩
  go_wp2_with fail
  refine (K.out _).mono ?_
  rintro e w1 ⟨rfl,rfl⟩
  go_wp2_with fail
  refine (K2.out _).mono ?_
  rintro e w1 ⟨rfl,hb⟩
  go_wp2
  go_ret
  exact ⟨rfl,hb⟩
theorem at10_any (q:Nat) (w:World):Calls Tryz.prog 148 #[.pointer (some ⟨q,0,none⟩)] w fun e w'=>e=.returned (.pointer (some ⟨q,9,none⟩))∧w=w':=by
 go_enter Tryz.func148,Tryz.ntmps148
 go_wp2
 go_ret
 exact ⟨rfl,rfl⟩
theorem put10_any (q a nn p:Nat) (d:ByteArray) (w:World) (hc:w.cell? ⟨q,9,none⟩=some (.string d)) (ha:w.cell? ⟨a,0,none⟩=some (.func (.func 148) #[] #[])) (hn:w.cell? ⟨nn,0,none⟩=some (.func (.func 181) #[] #[])) (hp:w.cell? ⟨p,0,none⟩=some (.func (.func 182) #[] #[])) (h:d.size≤140737488355328) :
 Calls Tryz.prog 201 #[.pointer (some ⟨q,0,none⟩),.pointer (some ⟨a,0,none⟩),.pointer (some ⟨nn,0,none⟩),.pointer (some ⟨p,0,none⟩)] w fun e w'=>e=.returned (.string (tb d))∧Below w.heap.size w w':=by
 have HAT:=zh (at10_any q)
 by_cases h0:d.size=0
 ·skip
  have hd:=(size0 d).1 h0
  subst hd
  have e0:tb ⟨#[]⟩=⟨#[]⟩:=rfl
  rw [e0]
  have K:=zh zeroS_yes
  clear h e0 h0
  go_enter Tryz.func201,Tryz.ntmps201
  go_wp2_with fail
  refine (HAT.out _).mono ?_
  rintro e w1 ⟨rfl,rfl⟩
  go_wp2_with fail
  refine (K.out _).mono ?_
  rintro e w1 ⟨rfl,rfl⟩
  go_wp2
  go_ret
  exact ⟨rfl,Below.refl _ _⟩
 ·skip
  have K:=zh (fun W=>zeroS_no d W h0)
  have K2:=zh (fun W=>text_any d W h)
  have e0:tb d=putB d.size++d:=by unfold tb;rw [if_neg h0]
  rw [e0]
  clear h e0 h0
  go_enter Tryz.func201,Tryz.ntmps201
  go_wp2_with fail
  refine (HAT.out _).mono ?_
  rintro e w1 ⟨rfl,rfl⟩
  go_wp2_with fail
  refine (K.out _).mono ?_
  rintro e w1 ⟨rfl,rfl⟩
  go_wp2_with fail
  refine (K2.out _).mono ?_
  rintro e w1 ⟨rfl,hb⟩
  go_wp2
  go_ret
  exact ⟨rfl,hb⟩
theorem at11_any (q:Nat) (w:World):Calls Tryz.prog 149 #[.pointer (some ⟨q,0,none⟩)] w fun e w'=>e=.returned (.pointer (some ⟨q,10,none⟩))∧w=w':=by
 go_enter Tryz.func149,Tryz.ntmps149
 go_wp2
 go_ret
 exact ⟨rfl,rfl⟩
theorem put11_any (q a nn p:Nat) (d:ByteArray) (w:World) (hc:w.cell? ⟨q,10,none⟩=some (.string d)) (ha:w.cell? ⟨a,0,none⟩=some (.func (.func 149) #[] #[])) (hn:w.cell? ⟨nn,0,none⟩=some (.func (.func 181) #[] #[])) (hp:w.cell? ⟨p,0,none⟩=some (.func (.func 182) #[] #[])) (h:d.size≤140737488355328) :
 Calls Tryz.prog 201 #[.pointer (some ⟨q,0,none⟩),.pointer (some ⟨a,0,none⟩),.pointer (some ⟨nn,0,none⟩),.pointer (some ⟨p,0,none⟩)] w fun e w'=>e=.returned (.string (tb d))∧Below w.heap.size w w':=by
 have HAT:=zh (at11_any q)
 by_cases h0:d.size=0
 ·skip
  have hd:=(size0 d).1 h0
  subst hd
  have e0:tb ⟨#[]⟩=⟨#[]⟩:=rfl
  rw [e0]
  have K:=zh zeroS_yes
  clear h e0 h0
  go_enter Tryz.func201,Tryz.ntmps201
  go_wp2_with fail
  refine (HAT.out _).mono ?_
  rintro e w1 ⟨rfl,rfl⟩
  go_wp2_with fail
  refine (K.out _).mono ?_
  rintro e w1 ⟨rfl,rfl⟩
  go_wp2
  go_ret
  exact ⟨rfl,Below.refl _ _⟩
 ·skip
  have K:=zh (fun W=>zeroS_no d W h0)
  have K2:=zh (fun W=>text_any d W h)
  have e0:tb d=putB d.size++d:=by unfold tb;rw [if_neg h0]
  rw [e0]
  clear h e0 h0
  go_enter Tryz.func201,Tryz.ntmps201
  go_wp2_with fail
  refine (HAT.out _).mono ?_
  rintro e w1 ⟨rfl,rfl⟩
  go_wp2_with fail
  refine (K.out _).mono ?_
  rintro e w1 ⟨rfl,rfl⟩
  go_wp2_with fail
  refine (K2.out _).mono ?_
  rintro e w1 ⟨rfl,hb⟩
  go_wp2
  go_ret
  exact ⟨rfl,hb⟩
end
end Go.Proofs.YtnobeoppffoomaaGreat
