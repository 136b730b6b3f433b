/-
  Up to four bytes xored into a row from a place on: its sum is as it was just if they are all 0.
  Conditions: the bytes lie within the row.
-/
import Derived.Test.YtdiompgffdiiaaaBurst
namespace Go.Proofs.Ytdiompgffdiiaaa
open Go.RowKit
namespace Crc
def sameB (b : Nat) : Nat → Bool
  | 0 => true
  | i + 1 => sameB b i && (b / 2 ^ (8 * i) % 256 == 0)
/-- A text with four bytes xored in from place k on, the first i of them done. -/
def bitRow (t : ByteArray) (b k i j : Nat) : Nat := byteAt t j ^^^ (if k ≤ j ∧ j < k + i then b / 2 ^ (8 * (j - k)) % 256 else 0)
theorem bitRow_zero (t : ByteArray) (b k j : Nat) : bitRow t b k 0 j = byteAt t j := by
  unfold bitRow; rw [if_neg (by omega), Nat.xor_zero]
theorem bitRow_at (t : ByteArray) (b k i : Nat) : bitRow t b k i (k + i) = byteAt t (k + i) := by
  unfold bitRow; rw [if_neg (by omega), Nat.xor_zero]
theorem bitRow_succ (t : ByteArray) (b k i j : Nat) : bitRow t b k (i + 1) j = if j = k + i then byteAt t (k + i) ^^^ (b / 2 ^ (8 * i) % 256) else bitRow t b k i j := by
  unfold bitRow
  by_cases e : j = k + i
  · subst e
    rw [if_pos rfl, if_pos (by omega), Nat.add_sub_cancel_left]
  · rw [if_neg e]
    by_cases h : k ≤ j ∧ j < k + i
    · rw [if_pos h, if_pos (by omega)]
    · rw [if_neg h, if_neg (by omega)]
theorem maskW_get : ∀ (p q : Nat) (l : List UInt8) (j : Nat), (List.replicate p 0 ++ l ++ List.replicate q 0).getD j 0 = if p ≤ j ∧ j < p + l.length then l.getD (j - p) 0 else 0
  | 0, q, l, j => by
    by_cases h : j < l.length
    · rw [if_pos ⟨by omega, by omega⟩, Nat.sub_zero, List.getD_eq_getElem?_getD, List.getD_eq_getElem?_getD]
      simp only [List.replicate_zero, List.nil_append]
      rw [List.getElem?_append_left h]
    · rw [if_neg (by omega), List.getD_eq_getElem?_getD]
      simp only [List.replicate_zero, List.nil_append]
      rw [List.getElem?_append_right (by omega), List.getElem?_replicate]
      split <;> rfl
  | p + 1, q, l, 0 => by
    rw [if_neg (by omega)]
    simp [List.replicate_succ]
  | p + 1, q, l, j + 1 => by
    have e : (List.replicate (p + 1) 0 ++ l ++ List.replicate q 0).getD (j + 1) 0 = (List.replicate p 0 ++ l ++ List.replicate q 0).getD j 0 := by simp [List.replicate_succ]
    rw [e, maskW_get p q l j]
    by_cases h : p ≤ j ∧ j < p + l.length
    · rw [if_pos h, if_pos (by omega), Nat.add_sub_add_right]
    · rw [if_neg h, if_neg (by omega)]
def window (b m : Nat) : List UInt8 := (List.range m).map fun j => UInt8.ofNat (b / 2 ^ (8 * j) % 256)
theorem window_length (b m : Nat) : (window b m).length = m := by simp [window]
theorem sameB_iff (b : Nat) : ∀ m, sameB b m = true ↔ ∀ c ∈ window b m, c = 0
  | 0 => by simp [sameB, window]
  | m + 1 => by
    have ih := sameB_iff b m
    unfold sameB
    rw [Bool.and_eq_true, ih, beq_iff_eq]
    unfold window
    rw [List.range_succ, List.map_append]
    constructor
    · rintro ⟨h1, h2⟩ c hc
      rcases List.mem_append.1 hc with hc | hc
      · exact h1 c hc
      · simp only [List.map_cons, List.map_nil, List.mem_singleton] at hc
        rw [hc, h2]; rfl
    · intro h
      refine ⟨fun c hc => h c (List.mem_append_left _ hc), ?_⟩
      have e := h (UInt8.ofNat (b / 2 ^ (8 * m) % 256)) (List.mem_append_right _ (by simp))
      have e2 := congrArg UInt8.toNat e
      rw [UInt8.toNat_ofNat', Nat.mod_mod] at e2
      simpa using e2
/-- The sum of a text with up to four bytes xored in. -/
theorem moreB_bits (t : ByteArray) (b k n m : Nat) (hn : t.size = n) (hm : m ≤ 4) (hk : k + m ≤ n) :
    moreB 0 (strOfNums (nums n (bitRow t b k m))) = moreB 0 t ↔ sameB b m = true := by
  have hw := window_length b m
  have hl : t.data.toList.length = n := by simpa using hn
  have e := str_masked t n hn (bitRow t b k m) (List.replicate k 0 ++ window b m ++ List.replicate (n - k - m) 0) (by simp [hw]; omega) (fun j hj => by
    rw [maskW_get, hw]
    unfold bitRow
    by_cases h : k ≤ j ∧ j < k + m
    · rw [if_pos h, if_pos h]
      have h2 : j - k < m := by omega
      simp [window, List.getD, h2]
    · rw [if_neg h, if_neg h]; simp)
  unfold moreB
  rw [e, more_masked 0 t.data.toList k (n - k - m) (window b m) (by omega) (by omega), sameB_iff]
theorem moreB_bits_eq (t : ByteArray) (b k n m : Nat) (hn : t.size = n) (hm : m ≤ 4) (hk : k + m ≤ n) :
    (((moreB 0 (strOfNums (nums n (bitRow t b k m))) : Nat) : Int) == ((moreB 0 t : Nat) : Int)) = sameB b m := by
  rw [Bool.eq_iff_iff, ← moreB_bits t b k n m hn hm hk, beq_iff_eq]
  omega
/-- What the walk writes for the byte that is xored in. -/
theorem part_eq (b m : Nat) : (b : Int) / 2 ^ (8 * m) % 256 = ((b / 2 ^ (8 * m) % 256 : Nat) : Int) := by
  have e : (b : Int) / 2 ^ (8 * m) = ((b / 2 ^ (8 * m) : Nat) : Int) := by rw [Int.natCast_ediv, Int.natCast_pow]; rfl
  rw [e]
  generalize b / 2 ^ (8 * m) = q
  omega
theorem bit_eq (x b m : Nat) (hx : x < 256) : bits BinOp.xor IntKind.u8 (x : Int) ((b : Int) / 2 ^ (8 * m) % 256) = ((x ^^^ (b / 2 ^ (8 * m) % 256) : Nat) : Int) := by
  rw [part_eq, u8_xor_nat x _ hx (Nat.mod_lt _ (by omega))]
theorem none_eq (b m : Nat) : ((b : Int) / 2 ^ (8 * m) % 256 == 0) = (b / 2 ^ (8 * m) % 256 == 0) := by
  rw [part_eq, Bool.eq_iff_iff, beq_iff_eq, beq_iff_eq]
  omega
end Crc

end Go.Proofs.Ytdiompgffdiiaaa
