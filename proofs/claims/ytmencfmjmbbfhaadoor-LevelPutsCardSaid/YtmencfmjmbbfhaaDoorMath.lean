/-
  The plain mathematics of numbers as groups of seven bits, with no program in it.
  Conditions: named in each theorem.
-/
import Derived.Laws.BitsAllLaws
import Derived.RowKit
import Derived.Laws.BytesArg
import Derived.Lib.Hide
namespace Go.Proofs.YtmencfmjmbbfhaaDoor
open Go.RowKit
namespace Vi
def val : List Nat → Nat
  | [] => 0
  | b :: l => b % 128 + 128 * val l
def put (n : Nat) : List Nat := if n < 128 then [n] else (n % 128 + 128) :: put (n / 128)
termination_by n
decreasing_by omega
theorem put_small (n : Nat) (h : n < 128) : put n = [n] := by rw [put, if_pos h]
theorem put_big (n : Nat) (h : 128 ≤ n) : put n = (n % 128 + 128) :: put (n / 128) := by rw [put, if_neg (by omega)]
theorem put_ind {p : Nat → Prop} (h0 : ∀ n, n < 128 → p n) (h1 : ∀ n, 128 ≤ n → p (n / 128) → p n) (n : Nat) : p n := by
  induction n using Nat.strongRecOn with
  | _ n ih =>
    rcases Nat.lt_or_ge n 128 with h | h
    · exact h0 n h
    · exact h1 n h (ih _ (by omega))
theorem put_form (n : Nat) : ∃ pre b, put n = pre ++ [b] ∧ (∀ x ∈ pre, 128 ≤ x ∧ x < 256) ∧ b < 128 ∧ (pre ≠ [] → b ≠ 0) ∧ val (put n) = n ∧ 128 ^ pre.length * b ≤ n := by
  induction n using put_ind with
  | h0 n h =>
    refine ⟨[], n, by rw [put_small n h]; rfl, by simp, h, by simp, ?_, by simp⟩
    rw [put_small n h]
    simp only [val]; omega
  | h1 n h ih =>
    obtain ⟨pre, b, e, hp, hb, hz, hv, hs⟩ := ih
    refine ⟨(n % 128 + 128) :: pre, b, by rw [put_big n h, e]; rfl, ?_, hb, fun _ => ?_, ?_, ?_⟩
    · intro x hx
      rcases List.mem_cons.1 hx with rfl | hx
      · omega
      · exact hp x hx
    · rcases pre with _ | ⟨c, pre⟩
      · intro hb0
        rw [e, hb0] at hv
        simp only [List.nil_append, val] at hv
        omega
      · exact hz (by simp)
    · rw [put_big n h]
      simp only [val]
      rw [hv]; omega
    · rw [List.length_cons, Nat.pow_succ]
      have : 128 ^ pre.length * 128 * b = 128 * (128 ^ pre.length * b) := by rw [Nat.mul_comm _ 128, Nat.mul_assoc]
      omega
theorem val_append : ∀ (l m : List Nat), val (l ++ m) = val l + 128 ^ l.length * val m
  | [], m => by simp [val]
  | b :: l, m => by
    rw [List.cons_append]
    simp only [val]
    rw [val_append l m, List.length_cons, Nat.pow_succ, Nat.mul_add, Nat.mul_comm _ 128, Nat.mul_assoc]
    omega
theorem val_snoc (l : List Nat) (b : Nat) : val (l ++ [b]) = val l + 128 ^ l.length * (b % 128) := by
  rw [val_append]; simp [val]
theorem val_lt : ∀ (l : List Nat), val l < 128 ^ l.length
  | [] => by simp [val]
  | b :: l => by
    have h := val_lt l
    rw [List.length_cons, Nat.pow_succ]
    simp only [val]
    omega
theorem put_length_pos (n : Nat) : 0 < (put n).length := by
  obtain ⟨pre, b, e, -⟩ := put_form n
  rw [e]; simp
theorem put_length_le (n k : Nat) (h : n < 128 ^ (k + 1)) : (put n).length ≤ k + 1 := by
  induction k generalizing n with
  | zero => rw [put_small n (by simpa using h)]; simp
  | succ k ih =>
    rcases Nat.lt_or_ge n 128 with h1 | h1
    · rw [put_small n h1]; simp
    · have h2 := ih (n / 128) (by rw [Nat.div_lt_iff_lt_mul (by omega)]; rw [Nat.pow_succ] at h; exact h)
      rw [put_big n h1, List.length_cons]; omega
def cnt (l : List Nat) : Nat := (l.takeWhile fun b => decide (128 ≤ b)).length
def okL (l : List Nat) : Bool := decide (cnt l ≤ 9 ∧ cnt l < l.length ∧ (cnt l = 0 ∨ l.getD (cnt l) 0 ≠ 0) ∧ (cnt l = 9 → l.getD 9 0 ≤ 1))
def valL (l : List Nat) : Nat := if okL l = true then val (l.take (cnt l + 1)) else 0
def lenL (l : List Nat) : Nat := if okL l = true then cnt l + 1 else l.length
theorem cnt_eq : ∀ (l : List Nat) (i : Nat), (∀ j, j < i → 128 ≤ l.getD j 0) → i < l.length → l.getD i 0 < 128 → cnt l = i
  | [], i, _, hi, _ => by simp at hi
  | b :: l, 0, _, _, hb => by
    have : b < 128 := by simpa using hb
    unfold cnt
    rw [List.takeWhile_cons, if_neg (by simpa using this)]; rfl
  | b :: l, i + 1, h, hi, hb => by
    have h0 : 128 ≤ b := by simpa using h 0 (by omega)
    have ih := cnt_eq l i (fun j hj => by simpa using h (j + 1) (by omega)) (by simpa using hi) (by simpa using hb)
    unfold cnt at ih ⊢
    rw [List.takeWhile_cons, if_pos (by simpa using h0), List.length_cons, ih]
theorem cnt_ge : ∀ (l : List Nat) (i : Nat), (∀ j, j < i → 128 ≤ l.getD j 0) → i ≤ cnt l
  | _, 0, _ => Nat.zero_le _
  | [], i + 1, h => by have := h 0 (by omega); simp at this
  | b :: l, i + 1, h => by
    have h0 : 128 ≤ b := by simpa using h 0 (by omega)
    have ih := cnt_ge l i (fun j hj => by simpa using h (j + 1) (by omega))
    unfold cnt at ih ⊢
    rw [List.takeWhile_cons, if_pos (by simpa using h0), List.length_cons]
    omega
theorem okL_no (l : List Nat) (i : Nat) (h : ∀ j, j < i → 128 ≤ l.getD j 0) (hi : i = 10 ∨ l.length ≤ i) : okL l = false := by
  have hc := cnt_ge l i h
  unfold okL
  rw [decide_eq_false_iff_not]
  rintro ⟨h1, h2, -⟩
  omega
theorem okL_at (l : List Nat) (i : Nat) (h : ∀ j, j < i → 128 ≤ l.getD j 0) (hi : i < l.length) (hb : l.getD i 0 < 128) (h9 : i ≤ 9) :
    okL l = decide ((i = 0 ∨ l.getD i 0 ≠ 0) ∧ (i = 9 → l.getD i 0 ≤ 1)) := by
  have hc := cnt_eq l i h hi hb
  unfold okL
  rw [hc, decide_eq_decide]
  constructor
  · rintro ⟨_, _, h3, h4⟩
    exact ⟨h3, fun e => by subst e; exact h4 rfl⟩
  · rintro ⟨h3, h4⟩
    exact ⟨h9, hi, h3, fun e => by subst e; exact h4 rfl⟩
theorem valL_at (l : List Nat) (i : Nat) (h : ∀ j, j < i → 128 ≤ l.getD j 0) (hi : i < l.length) (hb : l.getD i 0 < 128) (ho : okL l = true) :
    valL l = val (l.take (i + 1)) ∧ lenL l = i + 1 := by
  have hc := cnt_eq l i h hi hb
  unfold valL lenL
  rw [if_pos ho, if_pos ho, hc]; exact ⟨rfl, rfl⟩
theorem getD_take (l : List Nat) (i : Nat) (hi : i < l.length) : l.take (i + 1) = l.take i ++ [l.getD i 0] := by
  rw [List.take_succ_eq_append_getElem hi, List.getD_eq_getElem?_getD, List.getElem?_eq_getElem hi]; rfl
theorem val_take (l : List Nat) (i : Nat) (hi : i < l.length) : val (l.take (i + 1)) = val (l.take i) + 128 ^ i * (l.getD i 0 % 128) := by
  rw [getD_take l i hi, val_snoc, List.length_take, Nat.min_eq_left (by omega)]
theorem val_take_lt (l : List Nat) (i : Nat) : val (l.take i) < 128 ^ i := by
  refine Nat.lt_of_lt_of_le (val_lt _) ?_
  exact Nat.pow_le_pow_right (by omega) (by rw [List.length_take]; omega)
theorem val_take_le (l : List Nat) (i : Nat) (h : i ≤ 9) : val (l.take i) < 9223372036854775808 := by
  refine Nat.lt_of_lt_of_le (val_take_lt l i) ?_
  exact Nat.le_trans (Nat.pow_le_pow_right (by omega) h) (by decide)
end Vi
end Go.Proofs.YtmencfmjmbbfhaaDoor
