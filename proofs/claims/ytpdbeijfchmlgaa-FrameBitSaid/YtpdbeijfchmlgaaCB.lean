/-
  Up to four bytes in a row that are xored into a text leave its register aas it was just if they are all 0.
  Conditions: registers below 2^32.
-/
import Derived.Test.YtpdbeijfchmlgaaCL
import Derived.Test.YtpdbeijfchmlgaaBend
namespace Go.Proofs.Ytpdbeijfchmlgaa
open Go.RowKit
namespace Crc

theorem xor_and_mod (r t : Nat) : (r ^^^ t) &&& 1 = (r ^^^ (t % 2)) &&& 1 := by
  rw [Nat.and_xor_distrib_right, Nat.and_xor_distrib_right, Nat.and_one_is_mod t, Nat.and_one_is_mod (t % 2), Nat.mod_mod]
theorem step_mod (r t : Nat) : step r t = step r (t % 2) := by unfold step; rw [xor_and_mod]
def bits8 (b : Nat) : List Nat := [b / 2 ^ 0 % 2, b / 2 ^ 1 % 2, b / 2 ^ 2 % 2, b / 2 ^ 3 % 2, b / 2 ^ 4 % 2, b / 2 ^ 5 % 2, b / 2 ^ 6 % 2, b / 2 ^ 7 % 2]
theorem byteStep_bits (r b : Nat) : byteStep r b = rawBits r (bits8 b) := by
  simp only [byteStep, stepN, rawBits, bits8, List.foldl]
  simp only [← step_mod]
def bitsOf : List UInt8 → List Nat
  | [] => []
  | c :: l => bits8 c.toNat ++ bitsOf l
theorem raw_bits : ∀ (l : List UInt8) (r : Nat), raw r l = rawBits r (bitsOf l)
  | [], _ => rfl
  | c :: l, r => by
    show raw (byteStep r c.toNat) l = rawBits r (bits8 c.toNat ++ bitsOf l)
    rw [raw_bits l, byteStep_bits]
    unfold rawBits
    rw [List.foldl_append]
theorem bits8_le (b : Nat) : ∀ t ∈ bits8 b, t ≤ 1 := by
  intro t ht
  simp only [bits8, List.mem_cons, List.not_mem_nil, or_false] at ht
  omega
theorem bitsOf_le : ∀ (l : List UInt8), ∀ t ∈ bitsOf l, t ≤ 1
  | [], _, h => by cases h
  | c :: l, t, h => by
    rcases List.mem_append.1 h with h | h
    · exact bits8_le _ t h
    · exact bitsOf_le l t h
theorem bitsOf_length : ∀ (l : List UInt8), (bitsOf l).length = 8 * l.length
  | [] => rfl
  | c :: l => by
    show (bits8 c.toNat ++ bitsOf l).length = _
    rw [List.length_append, bitsOf_length l]
    simp [bits8]; omega
theorem val_zero : ∀ (ts : List Nat), val ts = 0 → ∀ t ∈ ts, t = 0
  | [], _, _, h => by cases h
  | t :: ts, h, x, hx => by
    simp only [val] at h
    rcases List.mem_cons.1 hx with rfl | hx
    · omega
    · exact val_zero ts (by omega) x hx
theorem bits8_zero (b : Nat) (hb : b < 256) (h : ∀ t ∈ bits8 b, t = 0) : b = 0 := by
  have h0 := h (b / 2 ^ 0 % 2) (by simp [bits8])
  have h1 := h (b / 2 ^ 1 % 2) (by simp [bits8])
  have h2 := h (b / 2 ^ 2 % 2) (by simp [bits8])
  have h3 := h (b / 2 ^ 3 % 2) (by simp [bits8])
  have h4 := h (b / 2 ^ 4 % 2) (by simp [bits8])
  have h5 := h (b / 2 ^ 5 % 2) (by simp [bits8])
  have h6 := h (b / 2 ^ 6 % 2) (by simp [bits8])
  have h7 := h (b / 2 ^ 7 % 2) (by simp [bits8])
  simp only [Nat.pow_zero, Nat.div_one, Nat.pow_one] at *
  omega
theorem bitsOf_zero : ∀ (l : List UInt8), (∀ t ∈ bitsOf l, t = 0) → ∀ c ∈ l, c = 0
  | [], _, _, h => by cases h
  | c :: l, h, x, hx => by
    rcases List.mem_cons.1 hx with rfl | hx
    · have := bits8_zero x.toNat x.toNat_lt (fun t ht => h t (List.mem_append_left _ ht))
      exact UInt8.toNat_inj.1 (by simpa using this)
    · exact bitsOf_zero l (fun t ht => h t (List.mem_append_right _ ht)) x hx
/-- Four bytes that bring the register 0 to 0 are 0. -/
theorem raw_window (l : List UInt8) (hl : l.length ≤ 4) (h : raw 0 l = 0) : ∀ c ∈ l, c = 0 := by
  rw [raw_bits] at h
  have h1 := rawBits_zero (bitsOf l) 0 (by omega) (by rw [bitsOf_length]; omega) (bitsOf_le l) h
  exact bitsOf_zero l (val_zero _ h1.symm)
theorem byteStep_zero : byteStep 0 0 = 0 := by decide
theorem raw_zeros : ∀ (n : Nat), raw 0 (List.replicate n 0) = 0
  | 0 => rfl
  | n + 1 => by
    show raw (byteStep 0 0) (List.replicate n 0) = 0
    rw [byteStep_zero]; exact raw_zeros n
theorem rawBits_zeros_inj : ∀ (n : Nat) (r : Nat), r < 4294967296 → rawBits r (List.replicate n 0) = 0 → r = 0
  | 0, _, _, h => h
  | n + 1, r, hr, h => step_inj0 r hr (rawBits_zeros_inj n (step r 0) (step_lt r 0 hr) h)
theorem bitsOf_zeros : ∀ (n : Nat), bitsOf (List.replicate n 0) = List.replicate (8 * n) 0
  | 0 => rfl
  | n + 1 => by
    show bits8 0 ++ bitsOf (List.replicate n 0) = _
    rw [bitsOf_zeros n, show 8 * (n + 1) = 8 + 8 * n by omega]
    have e : bits8 0 = List.replicate 8 0 := rfl
    rw [e, List.replicate_append_replicate]
theorem raw_zeros_inj (n r : Nat) (hr : r < 4294967296) (h : raw r (List.replicate n 0) = 0) : r = 0 := by
  rw [raw_bits, bitsOf_zeros] at h
  exact rawBits_zeros_inj _ r hr h
theorem all_zero_replicate (l : List UInt8) (h : ∀ c ∈ l, c = 0) : l = List.replicate l.length 0 := List.eq_replicate_iff.2 ⟨rfl, h⟩
/-- A mask that is 0 but for four bytes in a row. -/
theorem raw_mask (p q : Nat) (l : List UInt8) (hl : l.length ≤ 4) : raw 0 (List.replicate p 0 ++ l ++ List.replicate q 0) = 0 ↔ ∀ c ∈ l, c = 0 := by
  constructor
  · intro h
    rw [raw_append, raw_append, raw_zeros] at h
    exact raw_window l hl (raw_zeros_inj q _ (raw_lt l 0 (by omega)) h)
  · intro h
    rw [all_zero_replicate l h, raw_append, raw_append, raw_zeros, raw_zeros, raw_zeros]
theorem raw_masked (r : Nat) (a m : List UInt8) (h : a.length = m.length) : raw r (xorL a m) = raw r a ^^^ raw 0 m := by
  have e := raw_xor a m r 0 h
  rwa [Nat.xor_zero] at e
theorem xor_self_iff (a m : Nat) : a ^^^ m = a ↔ m = 0 := by
  constructor
  · intro h
    have : a ^^^ (a ^^^ m) = a ^^^ a := by rw [h]
    rwa [← Nat.xor_assoc, Nat.xor_self, Nat.zero_xor] at this
  · intro h; rw [h, Nat.xor_zero]
theorem comp_inj {a b : Nat} (ha : a < 4294967296) (hb : b < 4294967296) (h : comp a = comp b) : a = b := by unfold comp at h; omega
/-- The sum of a text and of the text with a mask xored in. -/
theorem more_masked (x : Nat) (a : List UInt8) (p q : Nat) (l : List UInt8) (hl : l.length ≤ 4) (h : a.length = p + l.length + q) :
    more x (xorL a (List.replicate p 0 ++ l ++ List.replicate q 0)) = more x a ↔ ∀ c ∈ l, c = 0 := by
  have hm : a.length = (List.replicate p 0 ++ l ++ List.replicate q (0 : UInt8)).length := by simp; omega
  rw [← raw_mask p q l hl, ← xor_self_iff (raw (comp x) a), ← raw_masked (comp x) a _ hm]
  unfold more
  constructor
  · intro e; exact comp_inj (raw_lt _ _ (comp_lt x)) (raw_lt _ _ (comp_lt x)) e
  · intro e; rw [e]

/-- A text whose bytes are those of s but for a mask. -/
theorem str_masked (s : ByteArray) (n : Nat) (hn : s.size = n) (x : Nat → Nat) (m : List UInt8) (hm : m.length = n)
    (hx : ∀ j, j < n → x j = byteAt s j ^^^ (m.getD j 0).toNat) : (strOfNums (nums n x)).data.toList = xorL s.data.toList m := by
  have ls : s.data.toList.length = n := by simpa using hn
  apply List.ext_getElem
  · rw [str_length, xorL_length _ _ (by omega), ls]
  · intro i h1 h2
    rw [str_get]
    rw [str_length] at h1
    simp only [xorL_zip, List.getElem_zipWith]
    rw [hx i h1]
    apply UInt8.toNat_inj.1
    unfold byteAt
    rw [← UInt8.toNat_xor, UInt8.ofNat_toNat]
    simp [List.getD, show i < s.size by omega, show i < m.length by omega]
theorem str_same (s : ByteArray) (n : Nat) (hn : s.size = n) (x : Nat → Nat) (hx : ∀ j, j < n → x j = byteAt s j) : strOfNums (nums n x) = s := by
  have ls : s.data.toList.length = n := by simpa using hn
  apply ByteArray.ext
  apply Array.toList_inj.1
  apply List.ext_getElem
  · rw [str_length, ls]
  · intro i h1 h2
    rw [str_get]
    rw [str_length] at h1
    rw [hx i h1]
    unfold byteAt
    rw [UInt8.ofNat_toNat]
    simp [List.getD, show i < s.size by omega]

end Crc
end Go.Proofs.Ytpdbeijfchmlgaa
