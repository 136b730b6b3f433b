/-
  The walk of the law CrcSums, and the contracts of the document's own functions.
  Conditions: a text of at most 2^47 - 4096 bytes.
-/
import Derived.Test.YtdoombcihobejaaGreatCC
namespace Go.Proofs.YtdoombcihobejaaGreat
open Go.RowKit
namespace Crc
theorem and_one_cases (x : Nat) : x &&& 1 = 0 ∨ x &&& 1 = 1 := by rw [Nat.and_one_is_mod]; omega
theorem step_one (r q : Nat) (h : (r ^^^ q) &&& 1 = 1) : step r q = r / 2 ^^^ 2197175160 := by unfold step; rw [h]
theorem step_none (r q : Nat) (h : (r ^^^ q) &&& 1 = 0) : step r q = r / 2 := by unfold step; rw [h]; simp
/-- What the document's own step tests. -/
theorem test_eq (r b k : Nat) (hr : r < 4294967296) (hb : b < 256) :
    ((bits BinOp.xor IntKind.u32 (r : Int) ((b : Int) / 2 ^ k % 4294967296)).tmod 2 == 1) = decide ((r ^^^ b / 2 ^ k) &&& 1 = 1) := by
  have hq : b / 2 ^ k ≤ b := Nat.div_le_self _ _
  have e0 : (b : Int) / 2 ^ k = ((b / 2 ^ k : Nat) : Int) := by rw [Int.natCast_ediv, Int.natCast_pow]; rfl
  rw [e0]
  generalize b / 2 ^ k = q at *
  have e1 : (q : Int) % 4294967296 = (q : Int) := by omega
  rw [e1, u32_xor_nat r q hr (by omega), Nat.and_one_is_mod]
  generalize r ^^^ q = x
  have e2 : ((x : Int)).tmod 2 = ((x % 2 : Nat) : Int) := by rw [Int.tmod_eq_emod_of_nonneg (by omega)]; omega
  rw [e2, Bool.eq_iff_iff, beq_iff_eq, decide_eq_true_iff]
  omega
theorem half_eq (r : Nat) (hr : r < 4294967296) : bits BinOp.xor IntKind.u32 ((r : Int) / 2) 2197175160 = ((r / 2 ^^^ 2197175160 : Nat) : Int) := by
  have e : (r : Int) / 2 = ((r / 2 : Nat) : Int) := by omega
  rw [e]
  exact u32_xor_nat (r / 2) 2197175160 (by omega) (by omega)
end Crc

set_option maxHeartbeats 1000000 in
theorem rmore_any (sum : Nat) (s : ByteArray) (w : World) (hs : s.size ≤ maxLen) (hsum : sum < 4294967296) :
    Calls Tryz.prog 107 #[.int .u32 sum, .string s] w fun e w' => e = .returned (.int .u32 (Crc.moreB sum s)) ∧ w = w' := by
  unfold maxLen at hs
  have H0 := Lib.hid (Crc.comp_eq sum hsum)
  go_enter Tryz.func107, Tryz.ntmps107
  go_wp2
  rw [H0.out]
  go_loop [0, 5] (fun r i => ∃ k : Nat, k ≤ s.size ∧ i = .int .i64 k ∧ r = .int .u32 (Crc.raw (Crc.comp sum) (s.data.toList.take k))) (fun _ i => s.size - (intOf i).toNat)
  case atStart => exact ⟨0, by omega, rfl, rfl⟩
  case round =>
    obtain ⟨k, hk, rfl, rfl⟩ := hrel
    have hraw := Crc.raw_lt (s.data.toList.take k) _ (Crc.comp_lt sum)
    by_cases hlt : k < s.size
    · have hbyte : s[k].toNat < 256 := s[k].toNat_lt
      have HR := Lib.hid (Crc.raw_take_succ (Crc.comp sum) s k hlt)
      generalize Crc.raw (Crc.comp sum) (s.data.toList.take k) = r0 at *
      go_wp2
      go_loop [0, 6] (fun r j => ∃ m : Nat, m ≤ 8 ∧ j = .int .i64 m ∧ r = .int .u32 (Crc.stepN r0 s[k].toNat m)) (fun _ j => 8 - (intOf j).toNat)
      case atStart => exact ⟨0, by omega, rfl, rfl⟩
      case round =>
        obtain ⟨m, hm, rfl, rfl⟩ := hrel
        by_cases hm8 : m < 8
        · have hst := Crc.stepN_lt r0 s[k].toNat hraw m
          have hte := Crc.test_eq (Crc.stepN r0 s[k].toNat m) s[k].toNat m hst hbyte
          have HE := Lib.hid (Crc.half_eq (Crc.stepN r0 s[k].toNat m) hst)
          rcases Crc.and_one_cases (Crc.stepN r0 s[k].toNat m ^^^ s[k].toNat / 2 ^ m) with hbit | hbit
          · have HS := Lib.hid (Crc.step_none _ _ hbit)
            rw [decide_eq_false (by rw [hbit]; decide)] at hte
            clear hbit
            go_wp2
            go_round
            case rel => exact ⟨m + 1, by omega, by go_num, by show _ = Value.int IntKind.u32 ((Crc.step _ _ : Nat) : Int); rw [HS.out]; go_num⟩
            case measure => simp [intOf]; omega
          · have HS := Lib.hid (Crc.step_one _ _ hbit)
            rw [decide_eq_true hbit] at hte
            clear hbit
            go_wp2
            go_round
            case rel => exact ⟨m + 1, by omega, by go_num, by show _ = Value.int IntKind.u32 ((Crc.step _ _ : Nat) : Int); rw [HS.out, HE.out]⟩
            case measure => simp [intOf]; omega
        · have h8 : m = 8 := by omega
          subst h8
          go_wp2
          go_round
          case rel => exact ⟨k + 1, by omega, by go_num, by rw [HR.out]; rfl⟩
          case measure => simp [intOf]; omega
    · have hk' : k = s.size := by omega
      subst hk'
      have H1 := Lib.hid (Crc.comp_eq _ hraw)
      have H2 : Hid (s.data.toList.take s.size = s.data.toList) := by rw [List.take_of_length_le (by simp)]; exact rfl
      go_wp2
      go_ret
      refine ⟨?_, rfl⟩
      rw [H1.out, H2.out]
      rfl

set_option maxHeartbeats 400000 in
theorem rsum_any (s : ByteArray) (w : World) (hs : s.size ≤ maxLen) :
    Calls Tryz.prog 97 #[.string s] w fun e w' => e = .returned (.int .u32 (Crc.moreB 0 s)) ∧ w = w' := by
  go_enter Tryz.func97, Tryz.ntmps97
  go_wp2_with fail
  refine (rmore_any 0 s w hs (by omega)).mono ?_
  rintro e w1 ⟨rfl, rfl⟩
  go_wp2
  go_ret
  exact ⟨rfl, rfl⟩

end Go.Proofs.YtdoombcihobejaaGreat
