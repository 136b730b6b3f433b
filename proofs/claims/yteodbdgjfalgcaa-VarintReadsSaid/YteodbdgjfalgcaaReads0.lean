/-
  What was put, one behind the other, is read: the plain mathematics over texts.
  Conditions: named in each theorem.
-/
import Derived.Test.YteodbdgjfalgcaaOnce
namespace Go.Proofs.Yteodbdgjfalgcaa
open Go.RowKit
namespace Vi
theorem append_assoc3 (a b c : ByteArray) : a ++ b ++ c = a ++ (b ++ c) := by
  apply ByteArray.ext
  simp [ByteArray.data_append, Array.append_assoc]
theorem extract_left (a b : ByteArray) : (a ++ b).extract 0 a.size = a := by
  apply nums_inj
  rw [nums_extract, nums_append, List.drop_zero, Nat.sub_zero, List.take_left' (nums_length a)]
theorem extract_right (a b : ByteArray) : (a ++ b).extract a.size (a ++ b).size = b := by
  apply nums_inj
  rw [nums_extract, nums_append, List.drop_left' (nums_length a), List.take_of_length_le]
  rw [nums_length, ByteArray.size_append]; omega
theorem var_put (n : Nat) (hn : n < 18446744073709551616) (t : ByteArray) : varV (putB n ++ t) = n ∧ varT (putB n ++ t) = t ∧ varO (putB n ++ t) = true := by
  obtain ⟨h1, h2, h3⟩ := put_reads n hn (nums t)
  have e : nums (putB n ++ t) = put n ++ nums t := by rw [nums_append, nums_putB]
  unfold varV varT varO
  rw [e]
  refine ⟨h2, ?_, h1⟩
  rw [h3]
  have e2 : (put n).length = (putB n).size := by unfold putB; rw [str_size]
  rw [e2]
  exact extract_right _ _
theorem tex_put (s t : ByteArray) (hs : s.size < 18446744073709551616) : texV (putB s.size ++ (s ++ t)) = s ∧ texT (putB s.size ++ (s ++ t)) = t ∧ texO (putB s.size ++ (s ++ t)) = true := by
  obtain ⟨h1, h2, h3⟩ := var_put s.size hs (s ++ t)
  have hh : hasB (s ++ t) s.size = true := decide_eq_true (by rw [ByteArray.size_append]; omega)
  unfold texV texT texO
  rw [h1, h2, h3]
  unfold bytV bytT
  rw [hh, if_pos rfl, if_pos rfl, Int.toNat_natCast]
  exact ⟨extract_left s t, extract_right s t, rfl⟩
theorem be_fx (a : Nat) : ∀ k, be (fx a k) = a % 256 ^ k
  | 0 => by simp [fx, be, Nat.mod_one]
  | k + 1 => by
    have hc : ∀ (l : List Nat) (x : Nat), l.foldl (fun a b => a * 256 + b) x = x * 256 ^ l.length + be l := by
      intro l
      induction l with
      | nil => intro x; simp [be]
      | cons y l ih =>
        intro x
        have e : be (y :: l) = y * 256 ^ l.length + be l := by
          show l.foldl (fun a b => a * 256 + b) (0 * 256 + y) = _
          rw [Nat.zero_mul, Nat.zero_add]; exact ih y
        rw [List.foldl_cons, ih, e, List.length_cons, Nat.pow_succ, Nat.add_mul, Nat.mul_comm (256 ^ l.length) 256, Nat.mul_assoc, Nat.add_assoc]
    have e : be (fx a (k + 1)) = (a / 256 ^ k % 256) * 256 ^ (fx a k).length + be (fx a k) := by
      show (fx a k).foldl (fun a b => a * 256 + b) (0 * 256 + a / 256 ^ k % 256) = _
      rw [Nat.zero_mul, Nat.zero_add]; exact hc _ _
    rw [e, fx_length, be_fx a k, Nat.mod_pow_succ, Nat.mul_comm, Nat.add_comm]
theorem fx_lt (a : Nat) : ∀ k, ∀ x ∈ fx a k, x < 256
  | 0 => by simp [fx]
  | k + 1 => by
    intro x hx
    rw [fx] at hx
    rcases List.mem_cons.1 hx with rfl | hx
    · exact Nat.mod_lt _ (by omega)
    · exact fx_lt a k x hx
theorem fxB_eq (a k : Nat) (hk : k ≤ 8) : fxB a (k : Int) = str (fx a k) := by unfold fxB; rw [if_pos (by omega), Int.toNat_natCast]
theorem fxB_size (a k : Nat) (hk : k ≤ 8) : (fxB a (k : Int)).size = k := by rw [fxB_eq a k hk, str_size, fx_length]
theorem fix_put (a k : Nat) (hk : k ≤ 8) (t : ByteArray) : fixV (fxB a k ++ t) k = a % 256 ^ k ∧ fixT (fxB a k ++ t) k = t ∧ hasF (fxB a k ++ t) k = true := by
  have hz := fxB_size a k hk
  have hh : hasF (fxB a k ++ t) k = true := decide_eq_true (by rw [ByteArray.size_append]; omega)
  unfold fixV fixT
  rw [hh, if_pos rfl, if_pos rfl, Int.toNat_natCast]
  refine ⟨?_, ?_, rfl⟩
  · have e : nums (fxB a k) = fx a k := by rw [fxB_eq a k hk, nums_str _ (fx_lt a k)]
    rw [nums_append, e, List.take_left' (fx_length a k), be_fx]
  · have := extract_right (fxB a k) t
    rw [hz] at this
    exact this
theorem back_chain (a b : Nat) (s : ByteArray) (k : Nat) (ha : a < 18446744073709551616) (_hb : b < 18446744073709551616) (hs : s.size < 18446744073709551616) (hk : k ≤ 8) :
    varV (putB a ++ (putB s.size ++ s) ++ fxB b k ++ ⟨#[120]⟩) = a ∧ varT (putB a ++ (putB s.size ++ s) ++ fxB b k ++ ⟨#[120]⟩) = putB s.size ++ s ++ fxB b k ++ ⟨#[120]⟩ ∧ varO (putB a ++ (putB s.size ++ s) ++ fxB b k ++ ⟨#[120]⟩) = true ∧
    texV (putB s.size ++ s ++ fxB b k ++ ⟨#[120]⟩) = s ∧ texT (putB s.size ++ s ++ fxB b k ++ ⟨#[120]⟩) = fxB b k ++ ⟨#[120]⟩ ∧ texO (putB s.size ++ s ++ fxB b k ++ ⟨#[120]⟩) = true ∧
    fixV (fxB b k ++ ⟨#[120]⟩) k = b % 256 ^ k ∧ fixT (fxB b k ++ ⟨#[120]⟩) k = ⟨#[120]⟩ ∧ hasF (fxB b k ++ ⟨#[120]⟩) k = true := by
  obtain ⟨f1, f2, f3⟩ := fix_put b k hk ⟨#[120]⟩
  have h1 : putB a ++ (putB s.size ++ s) ++ fxB b k ++ ⟨#[120]⟩ = putB a ++ (putB s.size ++ s ++ fxB b k ++ ⟨#[120]⟩) := by simp only [append_assoc3]
  have h2 : putB s.size ++ s ++ fxB b k ++ ⟨#[120]⟩ = putB s.size ++ (s ++ (fxB b k ++ ⟨#[120]⟩)) := by simp only [append_assoc3]
  obtain ⟨v1, v2, v3⟩ := var_put a ha (putB s.size ++ s ++ fxB b k ++ ⟨#[120]⟩)
  obtain ⟨t1, t2, t3⟩ := tex_put s (fxB b k ++ ⟨#[120]⟩) hs
  rw [h1, v1, v2, v3, h2, t1, t2, t3]
  exact ⟨rfl, rfl, rfl, rfl, rfl, rfl, f1, f2, f3⟩
theorem bk1 : bytT ⟨#[120]⟩ 1 = ⟨#[]⟩ := by decide +kernel
theorem bk2 : hasB ⟨#[120]⟩ 1 = true := by decide +kernel
theorem bk3 : bytV ⟨#[120]⟩ 1 = ⟨#[120]⟩ := by decide +kernel
end Vi
end Go.Proofs.Yteodbdgjfalgcaa
