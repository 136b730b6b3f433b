/-
  The walk of the law CrcSums, and the contracts of the document's own functions.
  Conditions: a text of at most 2^47 - 4096 bytes.
-/
import Derived.Test.YtdoombcihobejaaCC
namespace Go.Proofs.Ytdoombcihobejaa
open Go.RowKit
namespace Crc
theorem and_one_cases (x : Nat) : x &&& 1 = 0 ∨ x &&& 1 = 1 := by rw [Nat.and_one_is_mod]; omega
theorem step_one (r q : Nat) (h : (r ^^^ q) &&& 1 = 1) : step r q = r / 2 ^^^ 2197175160 := by unfold step; rw [h]
theorem step_none (r q : Nat) (h : (r ^^^ q) &&& 1 = 0) : step r q = r / 2 := by unfold step; rw [h]; simp
/-- What the document's own step tests. -/
theorem test_eq (r b k : Nat) (hr : r < 4294967296) (hb : b < 256) :
    ((bits BinOp.xor IntKind.u32 (r : Int) ((b : Int) / 2 ^ k % 4294967296)).tmod 2 == 1) = decide ((r ^^^ b / 2 ^ k) &&& 1 = 1) := by
  have hq : b / 2 ^ k ≤ b := Nat.div_le_self _ _
  have e0 : (b : Int) / 2 ^ k = ((b / 2 ^ k : Nat) : Int) := by rw [Int.natCast_ediv, Int.natCast_pow]; rfl
  rw [e0]
  generalize b / 2 ^ k = q at *
  have e1 : (q : Int) % 4294967296 = (q : Int) := by omega
  rw [e1, u32_xor_nat r q hr (by omega), Nat.and_one_is_mod]
  generalize r ^^^ q = x
  have e2 : ((x : Int)).tmod 2 = ((x % 2 : Nat) : Int) := by rw [Int.tmod_eq_emod_of_nonneg (by omega)]; omega
  rw [e2, Bool.eq_iff_iff, beq_iff_eq, decide_eq_true_iff]
  omega
theorem half_eq (r : Nat) (hr : r < 4294967296) : bits BinOp.xor IntKind.u32 ((r : Int) / 2) 2197175160 = ((r / 2 ^^^ 2197175160 : Nat) : Int) := by
  have e : (r : Int) / 2 = ((r / 2 : Nat) : Int) := by omega
  rw [e]
  exact u32_xor_nat (r / 2) 2197175160 (by omega) (by omega)
end Crc

end Go.Proofs.Ytdoombcihobejaa
