/-
  No message's text goes on as another one's: the plain mathematics of it.
  Conditions: named in each theorem.
-/
import Derived.Test.YtiikgfcfceldmaaPMu
namespace Go.Proofs.Ytiikgfcfceldmaa
open Go.RowKit
open Vi
set_option linter.unusedVariables false
set_option linter.unusedSimpArgs false

theorem seg_app (l r : List Nat) (a b : Nat) (h : a + b ≤ l.length) : ((l ++ r).drop a).take b = (l.drop a).take b := by
  rw [List.drop_append_of_le_length (by omega), List.take_append_of_le_length (by rw [List.length_drop]; omega)]
theorem mN_at (s : ByteArray) (h : 45 ≤ s.size) : mN s = be (((nums s).drop 44).take 1) := by
  obtain ⟨_, _, _, _, _, _, _, _, e9, _, _⟩ := u_all s h
  have f := (fix_yes (sk s 44) 1 (by omega) (by rw [sk_size]; omega)).1
  unfold mN
  rw [e9]
  refine f.trans ?_
  rw [nums_sk]
theorem mZ_at (s : ByteArray) (h : mAll s = true) : mZ s = be (((nums s).drop (45 + 110 * mN s)).take 4) := by
  obtain ⟨h1, eG, _⟩ := mAll_sizes s h
  have f := (fix_yes (sk s (45 + 110 * mN s)) 4 (by omega) (by rw [sk_size]; omega)).1
  unfold mZ
  rw [eG]
  refine f.trans ?_
  rw [nums_sk]
/-- A whole message's text with something behind it is none. -/
theorem mAll_pre (s t : ByteArray) (h : mAll s = true) (k : mAll (s ++ t) = true) : t.size = 0 := by
  obtain ⟨h1, _⟩ := mAll_sizes s h
  obtain ⟨k1, _⟩ := mAll_sizes (s ++ t) k
  rw [ByteArray.size_append] at k1
  have eN : mN (s ++ t) = mN s := by
    rw [mN_at s (by omega), mN_at (s ++ t) (by rw [ByteArray.size_append]; omega), nums_append, seg_app _ _ _ _ (by rw [nums_length]; omega)]
  have eZ : mZ (s ++ t) = mZ s := by
    rw [mZ_at s h, mZ_at (s ++ t) k, eN, nums_append, seg_app _ _ _ _ (by rw [nums_length]; omega)]
  rw [eN, eZ] at k1
  omega
theorem split_at (s : ByteArray) (k : Nat) : s.extract 0 k ++ sk s k = s := by
  apply nums_inj
  rw [nums_append, nums_extract, nums_sk, List.drop_zero, Nat.sub_zero, List.take_append_drop]
/-- Cut anywhere it is none. -/
theorem mAll_cut (s : ByteArray) (k : Nat) (hk : k < s.size) (h : mAll s = true) : mAll (s.extract 0 k) = false := by
  cases hc : mAll (s.extract 0 k) with
  | false => rfl
  | true =>
    have e := split_at s k
    have h2 := mAll_pre (s.extract 0 k) (sk s k) hc (by rw [e]; exact h)
    rw [sk_size] at h2
    omega
/-- With something behind it it is none. -/
theorem mAll_long (s t : ByteArray) (ht : 0 < t.size) (h : mAll s = true) : mAll (s ++ t) = false := by
  cases hc : mAll (s ++ t) with
  | false => rfl
  | true =>
    have := mAll_pre s t h hc
    omega
end Go.Proofs.Ytiikgfcfceldmaa
