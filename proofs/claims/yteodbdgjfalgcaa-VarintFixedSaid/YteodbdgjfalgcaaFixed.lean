/-
  The walk of the law VarintFixed.
  Conditions: none.
-/
import Derived.Test.YteodbdgjfalgcaaEx
namespace Go.Proofs.Yteodbdgjfalgcaa
open Go.RowKit
namespace Vi
theorem str_toList (l : List Nat) : (str l).toList = l.map UInt8.ofNat := by
  rw [Lib.toList_data]
  unfold str
  rw [strOfNums_data, List.map_map]
  refine List.map_congr_left fun x _ => ?_
  simp
theorem ofNat_lt (x y : Nat) (hx : x < 256) (hy : y < 256) : (UInt8.ofNat x < UInt8.ofNat y) ↔ x < y := by
  rw [UInt8.lt_iff_toNat_lt]
  simp [Nat.mod_eq_of_lt hx, Nat.mod_eq_of_lt hy]
theorem ofNat_eq (x y : Nat) (hx : x < 256) (hy : y < 256) : (UInt8.ofNat x = UInt8.ofNat y) ↔ x = y := by
  rw [← UInt8.toNat_inj]
  simp [Nat.mod_eq_of_lt hx, Nat.mod_eq_of_lt hy]
/-- The order of what was put is the numbers'. -/
theorem fx_less (a b : Nat) : ∀ k, Op.bytesLess ((fx a k).map UInt8.ofNat) ((fx b k).map UInt8.ofNat) = decide (a % 256 ^ k < b % 256 ^ k)
  | 0 => by simp [fx, Op.bytesLess, Nat.mod_one]
  | k + 1 => by
    have ih := fx_less a b k
    rw [Nat.mod_pow_succ, Nat.mod_pow_succ, fx, fx, List.map_cons, List.map_cons, Op.bytesLess, ih]
    have hx : a / 256 ^ k % 256 < 256 := Nat.mod_lt _ (by omega)
    have hy : b / 256 ^ k % 256 < 256 := Nat.mod_lt _ (by omega)
    have hp : 0 < 256 ^ k := Nat.pow_pos (by omega)
    have hA : a % 256 ^ k < 256 ^ k := Nat.mod_lt _ hp
    have hB : b % 256 ^ k < 256 ^ k := Nat.mod_lt _ hp
    generalize a / 256 ^ k % 256 = x at *
    generalize b / 256 ^ k % 256 = y at *
    generalize a % 256 ^ k = A at *
    generalize b % 256 ^ k = B at *
    generalize 256 ^ k = p at *
    rw [decide_eq_decide.2 (ofNat_lt x y hx hy), show (UInt8.ofNat x == UInt8.ofNat y) = decide (x = y) by
      rw [Bool.eq_iff_iff, beq_iff_eq, decide_eq_true_iff]; exact ofNat_eq x y hx hy]
    rcases Nat.lt_trichotomy x y with h | h | h
    · have h1 : p * (x + 1) ≤ p * y := Nat.mul_le_mul_left _ h
      rw [Nat.mul_add, Nat.mul_one] at h1
      rw [decide_eq_true h, Bool.true_or, eq_comm, decide_eq_true_iff]
      omega
    · subst h
      rw [decide_eq_false (Nat.lt_irrefl x), decide_eq_true rfl, Bool.false_or, Bool.true_and, decide_eq_decide]
      omega
    · have h1 : p * (y + 1) ≤ p * x := Nat.mul_le_mul_left _ h
      rw [Nat.mul_add, Nat.mul_one] at h1
      rw [decide_eq_false (by omega), decide_eq_false (by omega), Bool.false_or, Bool.false_and, eq_comm, decide_eq_false_iff_not]
      omega
theorem fxB_less (a b : Nat) (ha : a < 18446744073709551616) (hb : b < 18446744073709551616) : Op.bytesLess (fxB a 8).toList (fxB b 8).toList = decide (a < b) := by
  have h := fx_less a b 8
  have e : (256 : Nat) ^ 8 = 18446744073709551616 := by decide
  rw [e, Nat.mod_eq_of_lt ha, Nat.mod_eq_of_lt hb] at h
  rw [← h]
  show Op.bytesLess (str (fx a 8)).toList (str (fx b 8)).toList = _
  rw [str_toList, str_toList]
theorem fxB_size8 (a : Nat) : (fxB a 8).size = 8 := by
  show (str (fx a 8)).size = 8
  rw [str_size, fx_length]
theorem fxB_part (a k j : Nat) (h : j + k = 8) : fxB a (k : Int) = (fxB a 8).extract j 8 := by
  have e1 : fxB a (k : Int) = str (fx a k) := by unfold fxB; rw [if_pos (by omega), Int.toNat_natCast]
  have e2 : fxB a 8 = str (fx a 8) := rfl
  rw [e1, e2]
  have hd := fx_drop a k j
  have h8 : k + j = 8 := by omega
  rw [h8] at hd
  apply ByteArray.ext
  apply Array.ext'
  have e3 : ∀ l, (str l).data.toList = l.map UInt8.ofNat := fun l => by rw [← Lib.toList_data, str_toList]
  rw [ByteArray.data_extract, Array.toList_extract, List.extract_eq_take_drop, e3, e3, ← hd, List.map_drop]
  rw [List.take_of_length_le]
  rw [List.length_drop, List.length_map, fx_length]
  omega
theorem fxB_9 (a : Nat) : fxB a 9 = ⟨#[]⟩ := rfl
theorem fxB_m (a : Nat) : fxB a (-1) = ⟨#[]⟩ := rfl
end Vi
set_option maxHeartbeats 2000000 in
set_option maxRecDepth 100000 in
theorem fixed_law (a b size : Nat) (w : World) (ha : a < 18446744073709551616) (hb : b < 18446744073709551616) (hz : size < 256) :
    Calls Try.prog 9 #[.int .u64 a, .int .u64 b, .int .u8 size] w fun e w' => e = .returned (.bool true) ∧ Below w.heap.size w w' := by
  have HLS := Lib.hid (Vi.fxB_less a b ha hb)
  obtain ⟨k, hk1, hk⟩ : ∃ k : Nat, (size : Int) % 9 = (k : Int) ∧ k ≤ 8 := ⟨size % 9, by omega, by omega⟩
  clear ha hb
  go_enter Try.func9, Try.ntmps9
  go_wp2_with fail
  refine (examples_any w).mono ?_
  rintro e w0 ⟨rfl, hB0⟩
  go_wp2_with fail
  refine (fixed_any a 8 w0).mono ?_
  rintro e w1 ⟨rfl, hb1⟩
  have hB1 := hB0.trans (hb1.mono hB0.size)
  go_wp2_with fail
  refine (fixed_any b 8 w1).mono ?_
  rintro e w2 ⟨rfl, hb2⟩
  have hB := (hB1.trans (hb2.mono hB1.size)).drew
  clear hB0 hb1 hB1 hb2
  go_wp2
  obtain ⟨j, hj⟩ : ∃ j, j = 8 - k := ⟨_, rfl⟩
  have hp := Vi.fxB_part a k j (by omega)
  have q1 : IntKind.i64.wrap (j : Int) = (j : Int) := IntWalk.i64_in _ (by omega)
  have q2 : (8 - (k : Int)) = (j : Int) := by omega
  have q3 : (j : Int) ≤ 8 := by omega
  have q4 : (0 : Int) ≤ j := by omega
  have q5 : j ≤ 8 := by omega
  have hs8 := Vi.fxB_size8 a
  have h9 := Vi.fxB_9 a
  have hm := Vi.fxB_m a
  clear hj hk1
  rcases Nat.lt_or_ge a b with hab | hab
  · have hl := HLS.out
    rw [decide_eq_true hab] at hl
    clear HLS
    generalize Vi.fxB a 8 = s8 at *
    generalize Vi.fxB b 8 = t8 at *
    go_region_held3 (fun _ => True) (trivial) (first
      | (go_at_call 13; ((with_reducible refine (fixed_any _ _ _).mono ?_); rintro e w4 ⟨rfl, hb4⟩; replace hB := hB.trans (hb4.mono hB.size); clear hb4)))
    go_wp2
    go_ret
    exact ⟨rfl, hB⟩
  · have hl := HLS.out
    have hab' : ¬ a < b := by omega
    rw [decide_eq_false hab'] at hl
    clear HLS hab
    generalize Vi.fxB a 8 = s8 at *
    generalize Vi.fxB b 8 = t8 at *
    go_region_held3 (fun _ => True) (trivial) (first
      | (go_at_call 13; ((with_reducible refine (fixed_any _ _ _).mono ?_); rintro e w4 ⟨rfl, hb4⟩; replace hB := hB.trans (hb4.mono hB.size); clear hb4)))
    go_wp2
    go_ret
    exact ⟨rfl, hB⟩
end Go.Proofs.Yteodbdgjfalgcaa
