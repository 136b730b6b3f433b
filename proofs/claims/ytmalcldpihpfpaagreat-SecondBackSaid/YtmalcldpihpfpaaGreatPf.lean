/-
  How a field of an entry is put: its closure.
  Conditions: named in each theorem.
-/
import Derived.Test.YtmalcldpihpfpaaGreatFl
import Derived.Test.YtmalcldpihpfpaaGreatSec
namespace Go.Proofs.YtmalcldpihpfpaaGreat
open Go.RowKit
open Vi
set_option linter.unusedVariables false
set_option linter.unusedSimpArgs false

section
set_option maxRecDepth 100000
set_option maxHeartbeats 400000
theorem zeroI_yes (w : World) : Calls Tryz.prog 104 #[.int .i64 0] w fun e w' => e = .returned (.bool true) ∧ w = w' := by
  go_enter Tryz.func104, Tryz.ntmps104
  go_wp2
  go_ret
  exact ⟨rfl, rfl⟩
theorem zeroI_no (v : Int) (w : World) (h : v ≠ 0) : Calls Tryz.prog 104 #[.int .i64 v] w fun e w' => e = .returned (.bool false) ∧ w = w' := by
  go_enter Tryz.func104, Tryz.ntmps104
  go_wp2
  go_ret
  exact ⟨by simp [h], rfl⟩
theorem zeroU_yes (w : World) : Calls Tryz.prog 108 #[.int .u64 0] w fun e w' => e = .returned (.bool true) ∧ w = w' := by
  go_enter Tryz.func108, Tryz.ntmps108
  go_wp2
  go_ret
  exact ⟨rfl, rfl⟩
theorem zeroU_no (v : Int) (w : World) (h : v ≠ 0) : Calls Tryz.prog 108 #[.int .u64 v] w fun e w' => e = .returned (.bool false) ∧ w = w' := by
  go_enter Tryz.func108, Tryz.ntmps108
  go_wp2
  go_ret
  exact ⟨by simp [h], rfl⟩
theorem zeroS_yes (w : World) : Calls Tryz.prog 112 #[.string ⟨#[]⟩] w fun e w' => e = .returned (.bool true) ∧ w = w' := by
  go_enter Tryz.func112, Tryz.ntmps112
  go_wp2
  go_ret
  exact ⟨rfl, rfl⟩
theorem zeroS_no (s : ByteArray) (w : World) (h : s.size ≠ 0) : Calls Tryz.prog 112 #[.string s] w fun e w' => e = .returned (.bool false) ∧ w = w' := by
  have h2 : ¬ s = ByteArray.empty := fun e => h (by rw [e]; rfl)
  go_enter Tryz.func112, Tryz.ntmps112
  go_wp2
  go_ret
  have h3 : ¬ s.toList = [] := by
    rw [Lib.toList_data]
    intro e
    have := congrArg List.length e
    exact h (by simpa using this)
  exact ⟨by simp [h2, h3], rfl⟩
theorem putNI_any (n : Nat) (w : World) (h : n < 9223372036854775808) : Calls Tryz.prog 105 #[.int .i64 n] w fun e w' => e = .returned (.string (putB n)) ∧ Below w.heap.size w w' := by
  have hw : IntKind.u64.wrap (n : Int) = (n : Int) := IntWalk.u64_in _ (by omega)
  have K := Lib.hid (put_any n w (by omega))
  clear h
  go_enter Tryz.func105, Tryz.ntmps105
  go_wp2_with fail
  refine K.out.mono ?_
  rintro e w1 ⟨rfl, hb⟩
  go_wp2
  go_ret
  exact ⟨rfl, hb⟩
theorem putNU_any (n : Nat) (w : World) (h : n < 18446744073709551616) : Calls Tryz.prog 109 #[.int .u64 n] w fun e w' => e = .returned (.string (putB n)) ∧ Below w.heap.size w w' := by
  have K := Lib.hid (put_any n w h)
  have hw : IntKind.u64.wrap (n : Int) = (n : Int) := IntWalk.u64_in _ (by omega)
  clear h
  go_enter Tryz.func109, Tryz.ntmps109
  go_wp2_with fail
  refine K.out.mono ?_
  rintro e w1 ⟨rfl, hb⟩
  go_wp2
  go_ret
  exact ⟨rfl, hb⟩
theorem at1_any (q : Nat) (w : World) : Calls Tryz.prog 59 #[.pointer (some ⟨q, 0, none⟩)] w fun e w' => e = .returned (.pointer (some ⟨q, 2, none⟩)) ∧ w = w' := by
  go_enter Tryz.func59, Tryz.ntmps59
  go_wp2
  go_ret
  exact ⟨rfl, rfl⟩
theorem put1_any (q a nn p : Nat) (n : Nat) (w : World) (hc : w.cell? ⟨q, 2, none⟩ = some (.int .i64 n)) (ha : w.cell? ⟨a, 0, none⟩ = some (.func (.func 59) #[] #[])) (hn : w.cell? ⟨nn, 0, none⟩ = some (.func (.func 104) #[] #[])) (hp : w.cell? ⟨p, 0, none⟩ = some (.func (.func 105) #[] #[])) (h : n < 9223372036854775808) :
    Calls Tryz.prog 129 #[.pointer (some ⟨q, 0, none⟩), .pointer (some ⟨a, 0, none⟩), .pointer (some ⟨nn, 0, none⟩), .pointer (some ⟨p, 0, none⟩)] w fun e w' => e = .returned (.string (nb n)) ∧ Below w.heap.size w w' := by
  have HAT := Lib.hid (at1_any q)
  by_cases h0 : n = 0
  · skip
    subst h0
    have K := Lib.hid zeroI_yes
    have e0 : nb ((0 : Nat) : Int) = ⟨#[]⟩ := rfl
    rw [e0]
    clear h e0
    go_enter Tryz.func129, Tryz.ntmps129
    go_wp2_with fail
    refine (HAT.out _).mono ?_
    rintro e w1 ⟨rfl, rfl⟩
    go_wp2_with fail
    refine (K.out _).mono ?_
    rintro e w1 ⟨rfl, rfl⟩
    go_wp2
    go_ret
    exact ⟨rfl, Below.refl _ _⟩
  · skip
    have K := Lib.hid (fun W => zeroI_no (n : Int) W (by omega))
    have K2 := Lib.hid (fun W => putNI_any n W h)
    have e0 : nb (n : Int) = putB n := by unfold nb; rw [if_neg (by omega), Int.toNat_natCast]
    rw [e0]
    clear h e0 h0
    go_enter Tryz.func129, Tryz.ntmps129
    go_wp2_with fail
    refine (HAT.out _).mono ?_
    rintro e w1 ⟨rfl, rfl⟩
    go_wp2_with fail
    refine (K.out _).mono ?_
    rintro e w1 ⟨rfl, rfl⟩
    go_wp2_with fail
    refine (K2.out _).mono ?_
    rintro e w1 ⟨rfl, hb⟩
    go_wp2
    go_ret
    exact ⟨rfl, hb⟩
theorem at2_any (q : Nat) (w : World) : Calls Tryz.prog 61 #[.pointer (some ⟨q, 0, none⟩)] w fun e w' => e = .returned (.pointer (some ⟨q, 0, none⟩)) ∧ w = w' := by
  go_enter Tryz.func61, Tryz.ntmps61
  go_wp2
  go_ret
  exact ⟨rfl, rfl⟩
theorem put2_any (q a nn p : Nat) (n : Nat) (w : World) (hc : w.cell? ⟨q, 0, none⟩ = some (.int .u64 n)) (ha : w.cell? ⟨a, 0, none⟩ = some (.func (.func 61) #[] #[])) (hn : w.cell? ⟨nn, 0, none⟩ = some (.func (.func 108) #[] #[])) (hp : w.cell? ⟨p, 0, none⟩ = some (.func (.func 109) #[] #[])) (h : n < 18446744073709551616) :
    Calls Tryz.prog 132 #[.pointer (some ⟨q, 0, none⟩), .pointer (some ⟨a, 0, none⟩), .pointer (some ⟨nn, 0, none⟩), .pointer (some ⟨p, 0, none⟩)] w fun e w' => e = .returned (.string (nb n)) ∧ Below w.heap.size w w' := by
  have HAT := Lib.hid (at2_any q)
  by_cases h0 : n = 0
  · skip
    subst h0
    have K := Lib.hid zeroU_yes
    have e0 : nb ((0 : Nat) : Int) = ⟨#[]⟩ := rfl
    rw [e0]
    clear h e0
    go_enter Tryz.func132, Tryz.ntmps132
    go_wp2_with fail
    refine (HAT.out _).mono ?_
    rintro e w1 ⟨rfl, rfl⟩
    go_wp2_with fail
    refine (K.out _).mono ?_
    rintro e w1 ⟨rfl, rfl⟩
    go_wp2
    go_ret
    exact ⟨rfl, Below.refl _ _⟩
  · skip
    have K := Lib.hid (fun W => zeroU_no (n : Int) W (by omega))
    have K2 := Lib.hid (fun W => putNU_any n W h)
    have e0 : nb (n : Int) = putB n := by unfold nb; rw [if_neg (by omega), Int.toNat_natCast]
    rw [e0]
    clear h e0 h0
    go_enter Tryz.func132, Tryz.ntmps132
    go_wp2_with fail
    refine (HAT.out _).mono ?_
    rintro e w1 ⟨rfl, rfl⟩
    go_wp2_with fail
    refine (K.out _).mono ?_
    rintro e w1 ⟨rfl, rfl⟩
    go_wp2_with fail
    refine (K2.out _).mono ?_
    rintro e w1 ⟨rfl, hb⟩
    go_wp2
    go_ret
    exact ⟨rfl, hb⟩
theorem at3_any (q : Nat) (w : World) : Calls Tryz.prog 62 #[.pointer (some ⟨q, 0, none⟩)] w fun e w' => e = .returned (.pointer (some ⟨q, 1, none⟩)) ∧ w = w' := by
  go_enter Tryz.func62, Tryz.ntmps62
  go_wp2
  go_ret
  exact ⟨rfl, rfl⟩
theorem put3_any (q a nn p : Nat) (n : Nat) (w : World) (hc : w.cell? ⟨q, 1, none⟩ = some (.int .u64 n)) (ha : w.cell? ⟨a, 0, none⟩ = some (.func (.func 62) #[] #[])) (hn : w.cell? ⟨nn, 0, none⟩ = some (.func (.func 108) #[] #[])) (hp : w.cell? ⟨p, 0, none⟩ = some (.func (.func 109) #[] #[])) (h : n < 18446744073709551616) :
    Calls Tryz.prog 132 #[.pointer (some ⟨q, 0, none⟩), .pointer (some ⟨a, 0, none⟩), .pointer (some ⟨nn, 0, none⟩), .pointer (some ⟨p, 0, none⟩)] w fun e w' => e = .returned (.string (nb n)) ∧ Below w.heap.size w w' := by
  have HAT := Lib.hid (at3_any q)
  by_cases h0 : n = 0
  · skip
    subst h0
    have K := Lib.hid zeroU_yes
    have e0 : nb ((0 : Nat) : Int) = ⟨#[]⟩ := rfl
    rw [e0]
    clear h e0
    go_enter Tryz.func132, Tryz.ntmps132
    go_wp2_with fail
    refine (HAT.out _).mono ?_
    rintro e w1 ⟨rfl, rfl⟩
    go_wp2_with fail
    refine (K.out _).mono ?_
    rintro e w1 ⟨rfl, rfl⟩
    go_wp2
    go_ret
    exact ⟨rfl, Below.refl _ _⟩
  · skip
    have K := Lib.hid (fun W => zeroU_no (n : Int) W (by omega))
    have K2 := Lib.hid (fun W => putNU_any n W h)
    have e0 : nb (n : Int) = putB n := by unfold nb; rw [if_neg (by omega), Int.toNat_natCast]
    rw [e0]
    clear h e0 h0
    go_enter Tryz.func132, Tryz.ntmps132
    go_wp2_with fail
    refine (HAT.out _).mono ?_
    rintro e w1 ⟨rfl, rfl⟩
    go_wp2_with fail
    refine (K.out _).mono ?_
    rintro e w1 ⟨rfl, rfl⟩
    go_wp2_with fail
    refine (K2.out _).mono ?_
    rintro e w1 ⟨rfl, hb⟩
    go_wp2
    go_ret
    exact ⟨rfl, hb⟩
theorem at4_any (q : Nat) (w : World) : Calls Tryz.prog 63 #[.pointer (some ⟨q, 0, none⟩)] w fun e w' => e = .returned (.pointer (some ⟨q, 3, none⟩)) ∧ w = w' := by
  go_enter Tryz.func63, Tryz.ntmps63
  go_wp2
  go_ret
  exact ⟨rfl, rfl⟩
theorem put4_any (q a nn p : Nat) (n : Nat) (w : World) (hc : w.cell? ⟨q, 3, none⟩ = some (.int .u64 n)) (ha : w.cell? ⟨a, 0, none⟩ = some (.func (.func 63) #[] #[])) (hn : w.cell? ⟨nn, 0, none⟩ = some (.func (.func 108) #[] #[])) (hp : w.cell? ⟨p, 0, none⟩ = some (.func (.func 109) #[] #[])) (h : n < 18446744073709551616) :
    Calls Tryz.prog 132 #[.pointer (some ⟨q, 0, none⟩), .pointer (some ⟨a, 0, none⟩), .pointer (some ⟨nn, 0, none⟩), .pointer (some ⟨p, 0, none⟩)] w fun e w' => e = .returned (.string (nb n)) ∧ Below w.heap.size w w' := by
  have HAT := Lib.hid (at4_any q)
  by_cases h0 : n = 0
  · skip
    subst h0
    have K := Lib.hid zeroU_yes
    have e0 : nb ((0 : Nat) : Int) = ⟨#[]⟩ := rfl
    rw [e0]
    clear h e0
    go_enter Tryz.func132, Tryz.ntmps132
    go_wp2_with fail
    refine (HAT.out _).mono ?_
    rintro e w1 ⟨rfl, rfl⟩
    go_wp2_with fail
    refine (K.out _).mono ?_
    rintro e w1 ⟨rfl, rfl⟩
    go_wp2
    go_ret
    exact ⟨rfl, Below.refl _ _⟩
  · skip
    have K := Lib.hid (fun W => zeroU_no (n : Int) W (by omega))
    have K2 := Lib.hid (fun W => putNU_any n W h)
    have e0 : nb (n : Int) = putB n := by unfold nb; rw [if_neg (by omega), Int.toNat_natCast]
    rw [e0]
    clear h e0 h0
    go_enter Tryz.func132, Tryz.ntmps132
    go_wp2_with fail
    refine (HAT.out _).mono ?_
    rintro e w1 ⟨rfl, rfl⟩
    go_wp2_with fail
    refine (K.out _).mono ?_
    rintro e w1 ⟨rfl, rfl⟩
    go_wp2_with fail
    refine (K2.out _).mono ?_
    rintro e w1 ⟨rfl, hb⟩
    go_wp2
    go_ret
    exact ⟨rfl, hb⟩
theorem at5_any (q : Nat) (w : World) : Calls Tryz.prog 64 #[.pointer (some ⟨q, 0, none⟩)] w fun e w' => e = .returned (.pointer (some ⟨q, 4, none⟩)) ∧ w = w' := by
  go_enter Tryz.func64, Tryz.ntmps64
  go_wp2
  go_ret
  exact ⟨rfl, rfl⟩
theorem put5_any (q a nn p : Nat) (n : Nat) (w : World) (hc : w.cell? ⟨q, 4, none⟩ = some (.int .u64 n)) (ha : w.cell? ⟨a, 0, none⟩ = some (.func (.func 64) #[] #[])) (hn : w.cell? ⟨nn, 0, none⟩ = some (.func (.func 108) #[] #[])) (hp : w.cell? ⟨p, 0, none⟩ = some (.func (.func 109) #[] #[])) (h : n < 18446744073709551616) :
    Calls Tryz.prog 132 #[.pointer (some ⟨q, 0, none⟩), .pointer (some ⟨a, 0, none⟩), .pointer (some ⟨nn, 0, none⟩), .pointer (some ⟨p, 0, none⟩)] w fun e w' => e = .returned (.string (nb n)) ∧ Below w.heap.size w w' := by
  have HAT := Lib.hid (at5_any q)
  by_cases h0 : n = 0
  · skip
    subst h0
    have K := Lib.hid zeroU_yes
    have e0 : nb ((0 : Nat) : Int) = ⟨#[]⟩ := rfl
    rw [e0]
    clear h e0
    go_enter Tryz.func132, Tryz.ntmps132
    go_wp2_with fail
    refine (HAT.out _).mono ?_
    rintro e w1 ⟨rfl, rfl⟩
    go_wp2_with fail
    refine (K.out _).mono ?_
    rintro e w1 ⟨rfl, rfl⟩
    go_wp2
    go_ret
    exact ⟨rfl, Below.refl _ _⟩
  · skip
    have K := Lib.hid (fun W => zeroU_no (n : Int) W (by omega))
    have K2 := Lib.hid (fun W => putNU_any n W h)
    have e0 : nb (n : Int) = putB n := by unfold nb; rw [if_neg (by omega), Int.toNat_natCast]
    rw [e0]
    clear h e0 h0
    go_enter Tryz.func132, Tryz.ntmps132
    go_wp2_with fail
    refine (HAT.out _).mono ?_
    rintro e w1 ⟨rfl, rfl⟩
    go_wp2_with fail
    refine (K.out _).mono ?_
    rintro e w1 ⟨rfl, rfl⟩
    go_wp2_with fail
    refine (K2.out _).mono ?_
    rintro e w1 ⟨rfl, hb⟩
    go_wp2
    go_ret
    exact ⟨rfl, hb⟩
theorem at6_any (q : Nat) (w : World) : Calls Tryz.prog 65 #[.pointer (some ⟨q, 0, none⟩)] w fun e w' => e = .returned (.pointer (some ⟨q, 5, none⟩)) ∧ w = w' := by
  go_enter Tryz.func65, Tryz.ntmps65
  go_wp2
  go_ret
  exact ⟨rfl, rfl⟩
theorem put6_any (q a nn p : Nat) (n : Nat) (w : World) (hc : w.cell? ⟨q, 5, none⟩ = some (.int .u64 n)) (ha : w.cell? ⟨a, 0, none⟩ = some (.func (.func 65) #[] #[])) (hn : w.cell? ⟨nn, 0, none⟩ = some (.func (.func 108) #[] #[])) (hp : w.cell? ⟨p, 0, none⟩ = some (.func (.func 109) #[] #[])) (h : n < 18446744073709551616) :
    Calls Tryz.prog 132 #[.pointer (some ⟨q, 0, none⟩), .pointer (some ⟨a, 0, none⟩), .pointer (some ⟨nn, 0, none⟩), .pointer (some ⟨p, 0, none⟩)] w fun e w' => e = .returned (.string (nb n)) ∧ Below w.heap.size w w' := by
  have HAT := Lib.hid (at6_any q)
  by_cases h0 : n = 0
  · skip
    subst h0
    have K := Lib.hid zeroU_yes
    have e0 : nb ((0 : Nat) : Int) = ⟨#[]⟩ := rfl
    rw [e0]
    clear h e0
    go_enter Tryz.func132, Tryz.ntmps132
    go_wp2_with fail
    refine (HAT.out _).mono ?_
    rintro e w1 ⟨rfl, rfl⟩
    go_wp2_with fail
    refine (K.out _).mono ?_
    rintro e w1 ⟨rfl, rfl⟩
    go_wp2
    go_ret
    exact ⟨rfl, Below.refl _ _⟩
  · skip
    have K := Lib.hid (fun W => zeroU_no (n : Int) W (by omega))
    have K2 := Lib.hid (fun W => putNU_any n W h)
    have e0 : nb (n : Int) = putB n := by unfold nb; rw [if_neg (by omega), Int.toNat_natCast]
    rw [e0]
    clear h e0 h0
    go_enter Tryz.func132, Tryz.ntmps132
    go_wp2_with fail
    refine (HAT.out _).mono ?_
    rintro e w1 ⟨rfl, rfl⟩
    go_wp2_with fail
    refine (K.out _).mono ?_
    rintro e w1 ⟨rfl, rfl⟩
    go_wp2_with fail
    refine (K2.out _).mono ?_
    rintro e w1 ⟨rfl, hb⟩
    go_wp2
    go_ret
    exact ⟨rfl, hb⟩
theorem at7_any (q : Nat) (w : World) : Calls Tryz.prog 66 #[.pointer (some ⟨q, 0, none⟩)] w fun e w' => e = .returned (.pointer (some ⟨q, 6, none⟩)) ∧ w = w' := by
  go_enter Tryz.func66, Tryz.ntmps66
  go_wp2
  go_ret
  exact ⟨rfl, rfl⟩
theorem put7_any (q a nn p : Nat) (n : Nat) (w : World) (hc : w.cell? ⟨q, 6, none⟩ = some (.int .u64 n)) (ha : w.cell? ⟨a, 0, none⟩ = some (.func (.func 66) #[] #[])) (hn : w.cell? ⟨nn, 0, none⟩ = some (.func (.func 108) #[] #[])) (hp : w.cell? ⟨p, 0, none⟩ = some (.func (.func 109) #[] #[])) (h : n < 18446744073709551616) :
    Calls Tryz.prog 132 #[.pointer (some ⟨q, 0, none⟩), .pointer (some ⟨a, 0, none⟩), .pointer (some ⟨nn, 0, none⟩), .pointer (some ⟨p, 0, none⟩)] w fun e w' => e = .returned (.string (nb n)) ∧ Below w.heap.size w w' := by
  have HAT := Lib.hid (at7_any q)
  by_cases h0 : n = 0
  · skip
    subst h0
    have K := Lib.hid zeroU_yes
    have e0 : nb ((0 : Nat) : Int) = ⟨#[]⟩ := rfl
    rw [e0]
    clear h e0
    go_enter Tryz.func132, Tryz.ntmps132
    go_wp2_with fail
    refine (HAT.out _).mono ?_
    rintro e w1 ⟨rfl, rfl⟩
    go_wp2_with fail
    refine (K.out _).mono ?_
    rintro e w1 ⟨rfl, rfl⟩
    go_wp2
    go_ret
    exact ⟨rfl, Below.refl _ _⟩
  · skip
    have K := Lib.hid (fun W => zeroU_no (n : Int) W (by omega))
    have K2 := Lib.hid (fun W => putNU_any n W h)
    have e0 : nb (n : Int) = putB n := by unfold nb; rw [if_neg (by omega), Int.toNat_natCast]
    rw [e0]
    clear h e0 h0
    go_enter Tryz.func132, Tryz.ntmps132
    go_wp2_with fail
    refine (HAT.out _).mono ?_
    rintro e w1 ⟨rfl, rfl⟩
    go_wp2_with fail
    refine (K.out _).mono ?_
    rintro e w1 ⟨rfl, rfl⟩
    go_wp2_with fail
    refine (K2.out _).mono ?_
    rintro e w1 ⟨rfl, hb⟩
    go_wp2
    go_ret
    exact ⟨rfl, hb⟩
theorem at8_any (q : Nat) (w : World) : Calls Tryz.prog 67 #[.pointer (some ⟨q, 0, none⟩)] w fun e w' => e = .returned (.pointer (some ⟨q, 7, none⟩)) ∧ w = w' := by
  go_enter Tryz.func67, Tryz.ntmps67
  go_wp2
  go_ret
  exact ⟨rfl, rfl⟩
theorem put8_any (q a nn p : Nat) (n : Nat) (w : World) (hc : w.cell? ⟨q, 7, none⟩ = some (.int .i64 n)) (ha : w.cell? ⟨a, 0, none⟩ = some (.func (.func 67) #[] #[])) (hn : w.cell? ⟨nn, 0, none⟩ = some (.func (.func 104) #[] #[])) (hp : w.cell? ⟨p, 0, none⟩ = some (.func (.func 105) #[] #[])) (h : n < 9223372036854775808) :
    Calls Tryz.prog 129 #[.pointer (some ⟨q, 0, none⟩), .pointer (some ⟨a, 0, none⟩), .pointer (some ⟨nn, 0, none⟩), .pointer (some ⟨p, 0, none⟩)] w fun e w' => e = .returned (.string (nb n)) ∧ Below w.heap.size w w' := by
  have HAT := Lib.hid (at8_any q)
  by_cases h0 : n = 0
  · skip
    subst h0
    have K := Lib.hid zeroI_yes
    have e0 : nb ((0 : Nat) : Int) = ⟨#[]⟩ := rfl
    rw [e0]
    clear h e0
    go_enter Tryz.func129, Tryz.ntmps129
    go_wp2_with fail
    refine (HAT.out _).mono ?_
    rintro e w1 ⟨rfl, rfl⟩
    go_wp2_with fail
    refine (K.out _).mono ?_
    rintro e w1 ⟨rfl, rfl⟩
    go_wp2
    go_ret
    exact ⟨rfl, Below.refl _ _⟩
  · skip
    have K := Lib.hid (fun W => zeroI_no (n : Int) W (by omega))
    have K2 := Lib.hid (fun W => putNI_any n W h)
    have e0 : nb (n : Int) = putB n := by unfold nb; rw [if_neg (by omega), Int.toNat_natCast]
    rw [e0]
    clear h e0 h0
    go_enter Tryz.func129, Tryz.ntmps129
    go_wp2_with fail
    refine (HAT.out _).mono ?_
    rintro e w1 ⟨rfl, rfl⟩
    go_wp2_with fail
    refine (K.out _).mono ?_
    rintro e w1 ⟨rfl, rfl⟩
    go_wp2_with fail
    refine (K2.out _).mono ?_
    rintro e w1 ⟨rfl, hb⟩
    go_wp2
    go_ret
    exact ⟨rfl, hb⟩
theorem at9_any (q : Nat) (w : World) : Calls Tryz.prog 68 #[.pointer (some ⟨q, 0, none⟩)] w fun e w' => e = .returned (.pointer (some ⟨q, 8, none⟩)) ∧ w = w' := by
  go_enter Tryz.func68, Tryz.ntmps68
  go_wp2
  go_ret
  exact ⟨rfl, rfl⟩
theorem put9_any (q a nn p : Nat) (n : Nat) (w : World) (hc : w.cell? ⟨q, 8, none⟩ = some (.int .i64 n)) (ha : w.cell? ⟨a, 0, none⟩ = some (.func (.func 68) #[] #[])) (hn : w.cell? ⟨nn, 0, none⟩ = some (.func (.func 104) #[] #[])) (hp : w.cell? ⟨p, 0, none⟩ = some (.func (.func 105) #[] #[])) (h : n < 9223372036854775808) :
    Calls Tryz.prog 129 #[.pointer (some ⟨q, 0, none⟩), .pointer (some ⟨a, 0, none⟩), .pointer (some ⟨nn, 0, none⟩), .pointer (some ⟨p, 0, none⟩)] w fun e w' => e = .returned (.string (nb n)) ∧ Below w.heap.size w w' := by
  have HAT := Lib.hid (at9_any q)
  by_cases h0 : n = 0
  · skip
    subst h0
    have K := Lib.hid zeroI_yes
    have e0 : nb ((0 : Nat) : Int) = ⟨#[]⟩ := rfl
    rw [e0]
    clear h e0
    go_enter Tryz.func129, Tryz.ntmps129
    go_wp2_with fail
    refine (HAT.out _).mono ?_
    rintro e w1 ⟨rfl, rfl⟩
    go_wp2_with fail
    refine (K.out _).mono ?_
    rintro e w1 ⟨rfl, rfl⟩
    go_wp2
    go_ret
    exact ⟨rfl, Below.refl _ _⟩
  · skip
    have K := Lib.hid (fun W => zeroI_no (n : Int) W (by omega))
    have K2 := Lib.hid (fun W => putNI_any n W h)
    have e0 : nb (n : Int) = putB n := by unfold nb; rw [if_neg (by omega), Int.toNat_natCast]
    rw [e0]
    clear h e0 h0
    go_enter Tryz.func129, Tryz.ntmps129
    go_wp2_with fail
    refine (HAT.out _).mono ?_
    rintro e w1 ⟨rfl, rfl⟩
    go_wp2_with fail
    refine (K.out _).mono ?_
    rintro e w1 ⟨rfl, rfl⟩
    go_wp2_with fail
    refine (K2.out _).mono ?_
    rintro e w1 ⟨rfl, hb⟩
    go_wp2
    go_ret
    exact ⟨rfl, hb⟩
theorem at10_any (q : Nat) (w : World) : Calls Tryz.prog 70 #[.pointer (some ⟨q, 0, none⟩)] w fun e w' => e = .returned (.pointer (some ⟨q, 9, none⟩)) ∧ w = w' := by
  go_enter Tryz.func70, Tryz.ntmps70
  go_wp2
  go_ret
  exact ⟨rfl, rfl⟩
theorem put10_any (q a nn p : Nat) (d : ByteArray) (w : World) (hc : w.cell? ⟨q, 9, none⟩ = some (.string d)) (ha : w.cell? ⟨a, 0, none⟩ = some (.func (.func 70) #[] #[])) (hn : w.cell? ⟨nn, 0, none⟩ = some (.func (.func 112) #[] #[])) (hp : w.cell? ⟨p, 0, none⟩ = some (.func (.func 113) #[] #[])) (h : d.size ≤ 140737488355328) :
    Calls Tryz.prog 135 #[.pointer (some ⟨q, 0, none⟩), .pointer (some ⟨a, 0, none⟩), .pointer (some ⟨nn, 0, none⟩), .pointer (some ⟨p, 0, none⟩)] w fun e w' => e = .returned (.string (tb d)) ∧ Below w.heap.size w w' := by
  have HAT := Lib.hid (at10_any q)
  by_cases h0 : d.size = 0
  · skip
    have hd := (size0 d).1 h0
    subst hd
    have e0 : tb ⟨#[]⟩ = ⟨#[]⟩ := rfl
    rw [e0]
    have K := Lib.hid zeroS_yes
    clear h e0 h0
    go_enter Tryz.func135, Tryz.ntmps135
    go_wp2_with fail
    refine (HAT.out _).mono ?_
    rintro e w1 ⟨rfl, rfl⟩
    go_wp2_with fail
    refine (K.out _).mono ?_
    rintro e w1 ⟨rfl, rfl⟩
    go_wp2
    go_ret
    exact ⟨rfl, Below.refl _ _⟩
  · skip
    have K := Lib.hid (fun W => zeroS_no d W h0)
    have K2 := Lib.hid (fun W => text_any d W h)
    have e0 : tb d = putB d.size ++ d := by unfold tb; rw [if_neg h0]
    rw [e0]
    clear h e0 h0
    go_enter Tryz.func135, Tryz.ntmps135
    go_wp2_with fail
    refine (HAT.out _).mono ?_
    rintro e w1 ⟨rfl, rfl⟩
    go_wp2_with fail
    refine (K.out _).mono ?_
    rintro e w1 ⟨rfl, rfl⟩
    go_wp2_with fail
    refine (K2.out _).mono ?_
    rintro e w1 ⟨rfl, hb⟩
    go_wp2
    go_ret
    exact ⟨rfl, hb⟩
theorem at11_any (q : Nat) (w : World) : Calls Tryz.prog 71 #[.pointer (some ⟨q, 0, none⟩)] w fun e w' => e = .returned (.pointer (some ⟨q, 10, none⟩)) ∧ w = w' := by
  go_enter Tryz.func71, Tryz.ntmps71
  go_wp2
  go_ret
  exact ⟨rfl, rfl⟩
theorem put11_any (q a nn p : Nat) (d : ByteArray) (w : World) (hc : w.cell? ⟨q, 10, none⟩ = some (.string d)) (ha : w.cell? ⟨a, 0, none⟩ = some (.func (.func 71) #[] #[])) (hn : w.cell? ⟨nn, 0, none⟩ = some (.func (.func 112) #[] #[])) (hp : w.cell? ⟨p, 0, none⟩ = some (.func (.func 113) #[] #[])) (h : d.size ≤ 140737488355328) :
    Calls Tryz.prog 135 #[.pointer (some ⟨q, 0, none⟩), .pointer (some ⟨a, 0, none⟩), .pointer (some ⟨nn, 0, none⟩), .pointer (some ⟨p, 0, none⟩)] w fun e w' => e = .returned (.string (tb d)) ∧ Below w.heap.size w w' := by
  have HAT := Lib.hid (at11_any q)
  by_cases h0 : d.size = 0
  · skip
    have hd := (size0 d).1 h0
    subst hd
    have e0 : tb ⟨#[]⟩ = ⟨#[]⟩ := rfl
    rw [e0]
    have K := Lib.hid zeroS_yes
    clear h e0 h0
    go_enter Tryz.func135, Tryz.ntmps135
    go_wp2_with fail
    refine (HAT.out _).mono ?_
    rintro e w1 ⟨rfl, rfl⟩
    go_wp2_with fail
    refine (K.out _).mono ?_
    rintro e w1 ⟨rfl, rfl⟩
    go_wp2
    go_ret
    exact ⟨rfl, Below.refl _ _⟩
  · skip
    have K := Lib.hid (fun W => zeroS_no d W h0)
    have K2 := Lib.hid (fun W => text_any d W h)
    have e0 : tb d = putB d.size ++ d := by unfold tb; rw [if_neg h0]
    rw [e0]
    clear h e0 h0
    go_enter Tryz.func135, Tryz.ntmps135
    go_wp2_with fail
    refine (HAT.out _).mono ?_
    rintro e w1 ⟨rfl, rfl⟩
    go_wp2_with fail
    refine (K.out _).mono ?_
    rintro e w1 ⟨rfl, rfl⟩
    go_wp2_with fail
    refine (K2.out _).mono ?_
    rintro e w1 ⟨rfl, hb⟩
    go_wp2
    go_ret
    exact ⟨rfl, hb⟩
end
end Go.Proofs.YtmalcldpihpfpaaGreat
