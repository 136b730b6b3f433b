/-
  The walk of the law VarintBack.
  Conditions: a text of at most 2^47 bytes.
-/
import Derived.Test.YteodbdgjfalgcaaReads0
namespace Go.Proofs.Yteodbdgjfalgcaa
open Go.RowKit
set_option maxHeartbeats 2000000 in
set_option maxRecDepth 100000 in
theorem back_law (a b : Nat) (s : ByteArray) (size : Nat) (w : World) (ha : a < 18446744073709551616) (hb : b < 18446744073709551616) (hs : s.size ≤ 140737488351232) (hz : size < 256) :
    Calls Try.prog 5 #[.int .u64 a, .int .u64 b, .string s, .int .u8 size] w fun e w' => e = .returned (.bool true) ∧ Below w.heap.size w w' := by
  have HA := Lib.hid ha
  have HB := Lib.hid hb
  obtain ⟨k, hk1, hk⟩ : ∃ k : Nat, (size : Int) % 9 = (k : Int) ∧ k ≤ 8 := ⟨size % 9, by omega, by omega⟩
  have hAz := putB_size a ha
  have hPz := putB_size s.size (by omega)
  have hFz : (Vi.fxB b k).size ≤ 8 := by rw [Vi.fxB_size b k hk]; omega
  clear ha hb
  have HR := Lib.hid (Vi.back_chain a b s k HA.out HB.out (by omega) hk)
  go_enter Try.func5, Try.ntmps5
  go_wp2_with fail
  refine (examples_any w).mono ?_
  rintro e w0 ⟨rfl, hB0⟩
  go_wp2_with fail
  refine (put_any a w0 HA.out).mono ?_
  rintro e w1 ⟨rfl, hb1⟩
  have hB1 := hB0.trans (hb1.mono hB0.size)
  go_wp2_with fail
  refine (text_any s w1 (by omega)).mono ?_
  rintro e w2 ⟨rfl, hb2⟩
  have hB2 := hB1.trans (hb2.mono hB1.size)
  have q1 : (Vi.putB a).size + ((Vi.putB s.size).size + s.size) ≤ 9223372036854775807 := by omega
  go_wp2_with fail
  refine (fixed_any b k w2).mono ?_
  rintro e w3 ⟨rfl, hb3⟩
  have hB3 := hB2.trans (hb3.mono hB2.size)
  have q2 : (Vi.putB a).size + ((Vi.putB s.size).size + s.size) + (Vi.fxB b k).size ≤ 9223372036854775807 := by omega
  have q3 : (Vi.putB a).size + ((Vi.putB s.size).size + s.size) + (Vi.fxB b k).size + 1 ≤ 9223372036854775807 := by omega
  clear hB0 hB1 hB2 hb1 hb2 hb3
  go_wp2_with fail
  refine (new_any _ w3).mono ?_
  rintro e w4 ⟨rfl, hw4⟩
  have hr4 : Rd 52 w3.heap.size (Vi.putB a ++ (Vi.putB s.size ++ s) ++ Vi.fxB b k ++ ⟨#[120]⟩) false w4 := by rw [hw4]; exact Rd.new _ _ _ _
  have hB4 : Below w.heap.size w w4 := by rw [hw4]; exact hB3.alloc hB3.size _
  have hg := hB3.size
  clear hw4 hB3
  generalize w3.heap.size = g at *
  unfold rdp
  obtain ⟨z1, z2, z3, z4, z5, z6, z7, z8, z9⟩ := HR.out
  obtain ⟨y, hy⟩ : ∃ y, y = b % 256 ^ k := ⟨_, rfl⟩
  rw [← hy] at z7
  have HY := Lib.hid hy
  clear hy
  have hsz : (Vi.putB a ++ (Vi.putB s.size ++ s) ++ Vi.fxB b k ++ ⟨#[120]⟩).size ≤ 281474976710656 := by
    have e1 : (ByteArray.mk #[120]).size = 1 := rfl
    rw [ByteArray.size_append, ByteArray.size_append, ByteArray.size_append, ByteArray.size_append, e1]; omega
  have hs1 : (Vi.putB s.size ++ s ++ Vi.fxB b k ++ ⟨#[120]⟩).size ≤ 281474976710656 := by
    have e1 : (ByteArray.mk #[120]).size = 1 := rfl
    rw [ByteArray.size_append, ByteArray.size_append, ByteArray.size_append, e1]; omega
  have hs2 : (Vi.fxB b k ++ ⟨#[120]⟩).size ≤ 281474976710656 := by
    have e1 : (ByteArray.mk #[120]).size = 1 := rfl
    rw [ByteArray.size_append, e1]; omega
  clear q1 q2 q3 hAz hPz hFz HR
  generalize Vi.putB a ++ (Vi.putB s.size ++ s) ++ Vi.fxB b k ++ ⟨#[120]⟩ = R at *
  generalize Vi.putB s.size ++ s ++ Vi.fxB b k ++ ⟨#[120]⟩ = R1 at *
  generalize Vi.fxB b k ++ ⟨#[120]⟩ = R2 at *
  have Z1 := Lib.hid z1
  have Z2 := Lib.hid z2
  have Z3 := Lib.hid z3
  have Z4 := Lib.hid z4
  have Z5 := Lib.hid z5
  have Z6 := Lib.hid z6
  have Z7 := Lib.hid z7
  have Z8 := Lib.hid z8
  have Z9 := Lib.hid z9
  clear z1 z2 z3 z4 z5 z6 z7 z8 z9
  go_wp2_with fail
  refine (var_any g R _ w4 hr4 hsz).mono ?_
  rintro e w5 ⟨rfl, hr5, hg5⟩
  rw [Z2.out, Z3.out] at hr5
  rw [Z1.out]
  have hB5 := below_grownBy hB4 hg5 hB4.size hg
  clear hr4 hB4 hg5
  go_wp2_with fail
  refine (textr_any g R1 _ w5 hr5 hs1).mono ?_
  rintro e w6 ⟨rfl, hr6, hg6⟩
  rw [Z5.out, Z6.out] at hr6
  rw [Z4.out]
  have hB6 := below_grownBy hB5 hg6 hB5.size hg
  clear hr5 hB5 hg6
  go_wp2_with fail
  refine (fixedr_any g R2 _ k w6 hr6 hs2).mono ?_
  rintro e w7 ⟨rfl, hr7, hg7⟩
  rw [Z8.out, Z9.out] at hr7
  rw [Z7.out]
  have hB7 := below_grownBy hB6 hg7 hB6.size hg
  clear hr6 hB6 hg7
  go_wp2_with fail
  refine (left_any g _ _ w7 hr7).mono ?_
  rintro e w8 ⟨rfl, rfl⟩
  go_wp2_with fail
  refine (bytes_any g _ _ 1 w7 hr7 (by decide)).mono ?_
  rintro e w8 ⟨rfl, hr8, hg8⟩
  rw [Vi.bk1, Vi.bk2] at hr8
  rw [Vi.bk3]
  have hB8 := below_grownBy hB7 hg8 hB7.size hg
  clear hr7 hB7 hg8
  rcases Nat.lt_or_ge k 8 with h8 | h8
  · have hk8 : ((k : Int) == 8) = false := by rw [beq_eq_false_iff_ne]; omega
    obtain ⟨p, hp⟩ : ∃ p : Nat, p = 256 ^ k := ⟨_, rfl⟩
    have hp0 : 0 < p := by rw [hp]; exact Nat.pow_pos (by omega)
    have hpl : p < 18446744073709551616 := by
      have : p ≤ 256 ^ 7 := by rw [hp]; exact Nat.pow_le_pow_right (by omega) (by omega)
      have : (256 : Nat) ^ 7 = 72057594037927936 := by decide
      omega
    have hP : IntKind.u64.wrap (2 ^ (8 * k)) = (p : Int) := by
      have e : ((2 : Int) ^ (8 * k)) = (p : Int) := by
        rw [hp, show (256 : Nat) = 2 ^ 8 from rfl, ← Nat.pow_mul, Int.natCast_pow]; rfl
      rw [e]; exact IntWalk.u64_in _ (by omega)
    have hby : (b : Int) % (p : Int) = (y : Int) := by rw [HY.out, hp, Int.natCast_emod]
    have hp1 : ¬ (p : Int) = 0 := by omega
    have hp2 : (0 : Int) < p := by omega
    have hp3 : ¬ p = 0 := by omega
    clear hp hpl hp0
    go_wp2_with fail
    refine (ok_any g _ _ w8 hr8).mono ?_
    rintro e w9 ⟨rfl, rfl⟩
    go_wp2
    go_ret
    exact ⟨rfl, hB8⟩
  · obtain rfl : k = 8 := by omega
    have e8 : b % 256 ^ 8 = b := by
      have : (256 : Nat) ^ 8 = 18446744073709551616 := by decide
      rw [this]; exact Nat.mod_eq_of_lt HB.out
    have hyb := HY.out
    rw [e8] at hyb
    subst hyb
    clear e8
    go_wp2_with fail
    refine (ok_any g _ _ w8 hr8).mono ?_
    rintro e w9 ⟨rfl, rfl⟩
    go_wp2
    go_ret
    exact ⟨rfl, hB8⟩
end Go.Proofs.Yteodbdgjfalgcaa
