/-
  What is got, whatever the text; the document's own steps and tests are the program's.
  Conditions: named in each theorem.
-/
import Derived.Test.YtdiompgffdiiaaaTurned
namespace Go.Proofs.Ytdiompgffdiiaaa
open Go.RowKit
namespace Crc
/-- What is got, whatever the text. -/
def got (p : ByteArray) : Bool := decide (4 ≤ p.size) && getOk p
def gotS (p : ByteArray) : ByteArray := if got p then tail4 p else ⟨#[]⟩
theorem step_one (r q : Nat) (h : (r ^^^ q) &&& 1 = 1) : step r q = r / 2 ^^^ 2197175160 := by unfold step; rw [h]
theorem step_none (r q : Nat) (h : (r ^^^ q) &&& 1 = 0) : step r q = r / 2 := by unfold step; rw [h]; simp
/-- What the document's own step tests. -/
theorem test_eq (r b k : Nat) (hr : r < 4294967296) (hb : b < 256) :
    ((bits BinOp.xor IntKind.u32 (r : Int) ((b : Int) / 2 ^ k % 4294967296)).tmod 2 == 1) = decide ((r ^^^ b / 2 ^ k) &&& 1 = 1) := by
  have hq : b / 2 ^ k ≤ b := Nat.div_le_self _ _
  have e0 : (b : Int) / 2 ^ k = ((b / 2 ^ k : Nat) : Int) := by rw [Int.natCast_ediv, Int.natCast_pow]; rfl
  rw [e0]
  generalize b / 2 ^ k = q at *
  have e1 : (q : Int) % 4294967296 = (q : Int) := by omega
  rw [e1, u32_xor_nat r q hr (by omega), Nat.and_one_is_mod]
  generalize r ^^^ q = x
  have e2 : ((x : Int)).tmod 2 = ((x % 2 : Nat) : Int) := by rw [Int.tmod_eq_emod_of_nonneg (by omega)]; omega
  rw [e2, Bool.eq_iff_iff, beq_iff_eq, decide_eq_true_iff]
  omega
theorem half_eq (r : Nat) (hr : r < 4294967296) : bits BinOp.xor IntKind.u32 ((r : Int) / 2) 2197175160 = ((r / 2 ^^^ 2197175160 : Nat) : Int) := by
  have e : (r : Int) / 2 = ((r / 2 : Nat) : Int) := by omega
  rw [e]
  exact u32_xor_nat (r / 2) 2197175160 (by omega) (by omega)
theorem split4 (p : ByteArray) (h : 4 ≤ p.size) : p.extract 0 4 ++ p.extract 4 p.size = p := by
  rw [ByteArray.extract_append_extract]
  simp [h]
/-- The document's own test: what is put of the rest is the text. -/
theorem again_eq (p : ByteArray) (h : 4 ≤ p.size) : ((putB (p.extract 4 p.size)).toList == p.toList) = getOk p := by
  have e := split4 p h
  have h4 : (p.extract 0 4).size = 4 := by rw [ByteArray.size_extract]; omega
  have h2 := getOk_append (p.extract 0 4) (p.extract 4 p.size) h4
  rw [e] at h2
  rw [Bool.eq_iff_iff, h2, beq_iff_eq, ByteArray.toList_eq, ByteArray.toList_eq]
  unfold putB
  constructor
  · intro hh
    have h3 := bytes_ext hh
    have h5 : (head (moreB 0 (p.extract 4 p.size)) ++ p.extract 4 p.size).extract 0 4 = head (moreB 0 (p.extract 4 p.size)) := ByteArray.extract_append_eq_left rfl
    rw [h3] at h5
    exact h5
  · intro hh
    rw [← hh, e]
theorem got_short (p : ByteArray) (h : p.size < 4) : got p = false := by unfold got; rw [decide_eq_false (by omega)]; rfl
theorem got_long (p : ByteArray) (h : 4 ≤ p.size) : got p = getOk p := by unfold got; rw [decide_eq_true h]; rfl
end Crc

end Go.Proofs.Ytdiompgffdiiaaa
