/-
  Numbers and bytes that are read as they were put.
  Conditions: named in each theorem.
-/
import Derived.Test.YtmdippnfnadadaaVGet
namespace Go.Proofs.Ytmdippnfnadadaa
open Go.RowKit
set_option linter.unusedVariables false
set_option linter.unusedSimpArgs false
namespace Vi
theorem fx_be : ∀ (l : List Nat), (∀ x ∈ l, x < 256) → fx (be l) l.length = l := by
  have key0 : ∀ (n : Nat) (l : List Nat), l.length = n → (∀ x ∈ l, x < 256) → fx (be l) l.length = l := by
   intro n
   induction n with
   | zero =>
    intro l hl _
    have : l = [] := List.eq_nil_of_length_eq_zero hl
    subst this
    rfl
   | succ n ih0 =>
    intro l0 hl0 h0
    obtain ⟨l, b, rfl⟩ : ∃ l b, l0 = l ++ [b] := ⟨l0.dropLast, l0.getLast (by intro e; rw [e] at hl0; simp at hl0), (List.dropLast_concat_getLast _).symm⟩
    have ih := ih0 l (by simpa using hl0)
    have h := h0
    have hb : b < 256 := h b (by simp)
    have ih' := ih fun x hx => h x (by simp [hx])
    rw [be_snoc, List.length_append, List.length_singleton]
    have key : ∀ k, fx (be l * 256 + b) (k + 1) = fx (be l) k ++ [b] := by
      intro k
      induction k with
      | zero =>
        unfold fx fx
        simp
        omega
      | succ k ik =>
        rw [fx, ik, fx]
        have h1 : (be l * 256 + b) / 256 ^ (k + 1) = be l / 256 ^ k := by
          rw [Nat.pow_succ', ← Nat.div_div_eq_div_mul]
          congr 1
          omega
        rw [h1]
        rfl
    rw [key, ih']
  intro l h
  exact key0 l.length l rfl h
theorem empty_app (t : ByteArray) : (⟨#[]⟩ : ByteArray) ++ t = t := by apply ByteArray.ext; simp
/-- A number of a size that was read was put so. -/
theorem fix_sound (s : ByteArray) (k : Nat) (hk : k ≤ 8) (h : hasF s k = true) : fxB (fixV s k) k ++ fixT s k = s := by
  have hh : 0 ≤ (k : Int) ∧ (k : Int) ≤ 8 ∧ (k : Int) ≤ s.size := of_decide_eq_true h
  apply nums_inj
  have e1 : fixV s k = be ((nums s).take k) := by unfold fixV; rw [if_pos h, Int.toNat_natCast]
  have e2 : fixT s k = s.extract k s.size := by unfold fixT; rw [if_pos h, Int.toNat_natCast]
  have hl : ((nums s).take k).length = k := by rw [List.length_take, nums_length]; omega
  have hf := fx_be ((nums s).take k) (fun x hx => nums_lt s x (List.mem_of_mem_take hx))
  rw [hl] at hf
  rw [nums_append, fxB_eq _ k hk, nums_str _ (fx_lt _ _), e1, e2, hf, nums_extract, List.take_of_length_le (l := List.drop k (nums s)) (by rw [List.length_drop, nums_length]; omega), List.take_append_drop]
theorem bytVT (s : ByteArray) (n : Nat) (h : hasB s n = true) : bytV s n ++ bytT s n = s ∧ (bytV s n).size = n := by
  have hh : 0 ≤ (n : Int) ∧ (n : Int) ≤ s.size := of_decide_eq_true h
  have e1 : bytV s n = s.extract 0 n := by unfold bytV; rw [if_pos h, Int.toNat_natCast]
  have e2 : bytT s n = s.extract n s.size := by unfold bytT; rw [if_pos h, Int.toNat_natCast]
  rw [e1, e2]
  refine ⟨?_, by rw [ByteArray.size_extract]; omega⟩
  rw [ByteArray.extract_append_extract]
  have : n ≤ s.size := by omega
  simp [this]
theorem byt_put (a t : ByteArray) : bytV (a ++ t) a.size = a ∧ bytT (a ++ t) a.size = t ∧ hasB (a ++ t) a.size = true := by
  have hh : hasB (a ++ t) a.size = true := decide_eq_true (by rw [ByteArray.size_append]; omega)
  unfold bytV bytT
  rw [if_pos hh, if_pos hh, Int.toNat_natCast]
  exact ⟨extract_left a t, extract_right a t, hh⟩
theorem hasFB (s : ByteArray) (k : Nat) (hk : k ≤ 8) : hasF s k = hasB s k := by
  unfold hasF hasB
  rw [decide_eq_decide]
  omega
theorem fixBT (s : ByteArray) (k : Nat) (hk : k ≤ 8) : fixT s k = bytT s k := by
  unfold fixT bytT
  rw [hasFB s k hk]
theorem fixV_lt1 (s : ByteArray) : fixV s 1 < 256 := by
  unfold fixV
  split
  · have h := be_take_lt (nums s) (nums_getD_lt s) 1
    exact h
  · omega
theorem fixT_size (s : ByteArray) (k : Int) : (fixT s k).size ≤ s.size := by
  unfold fixT
  split
  · rw [ByteArray.size_extract]; omega
  · exact Nat.zero_le _
theorem bytT_size (s : ByteArray) (k : Int) : (bytT s k).size ≤ s.size := by
  unfold bytT
  split
  · rw [ByteArray.size_extract]; omega
  · exact Nat.zero_le _
end Vi
end Go.Proofs.Ytmdippnfnadadaa
