/-
  What Get says of the law's texts: fields that fall, come twice, are 0, have tags that there are not, or do not end.
  Conditions: the numbers are below 2^64.
-/
import Derived.Test.YtmalcldpihpfpaaGreatEx6
namespace Go.Proofs.YtmalcldpihpfpaaGreat
open Go.RowKit
open Vi
set_option linter.unusedVariables false
set_option linter.unusedSimpArgs false

theorem pk_true : ∀ n last E T, (pk eF n last E T true).2.2 = true
  | 0, _, _, _ => rfl
  | n + 1, last, E, T => by
    unfold pk
    split
    · rfl
    · split
      · rfl
      · exact pk_true n _ _ _
theorem pk_low {n last t : Nat} {E : En} {T : ByteArray} {b : Bool} (ht : t < 18446744073709551616) (h0 : t ≠ 0) (h : t ≤ last ∨ 12 ≤ t) : (pk eF (n + 1) last E (putB t ++ T) b).2.2 = true := by
  obtain ⟨v1, v2, v3⟩ := var_put t ht T
  unfold pk
  rw [v1, if_neg h0, if_pos h]
theorem pk_num {n last t v : Nat} {E : En} {T : ByteArray} (h0 : t ≠ 0) (h9 : t ≤ 9) (hl : last < t) (hv0 : v ≠ 0) (hv : v < 18446744073709551616) :
    pk eF (n + 1) last E (putB t ++ (putB v ++ T)) false = pk eF n t (setN t E v) T false := by
  obtain ⟨v1, v2, v3⟩ := var_put t (by omega) (putB v ++ T)
  obtain ⟨u1, u2, u3⟩ := var_put v hv T
  have hs : eF.S t E (putB v ++ T) = (setN t E v, T, true) := by
    show fS t E (putB v ++ T) = _
    unfold fS
    rw [if_pos h9, u1, u2, u3, if_neg hv0, decide_eq_true hv0]
    rfl
  conv => lhs; unfold pk
  rw [v1, v2, v3, if_neg h0, if_neg (by omega), hs]
  rfl
theorem pk_zero {n last t : Nat} {E : En} {T : ByteArray} (h0 : t ≠ 0) (h9 : t ≤ 9) (hl : last < t) :
    (pk eF (n + 1) last E (putB t ++ (putB 0 ++ T)) false).2.2 = true := by
  obtain ⟨v1, v2, v3⟩ := var_put t (by omega) (putB 0 ++ T)
  obtain ⟨u1, u2, u3⟩ := var_put 0 (by omega) T
  have hs : (eF.S t E (putB 0 ++ T)).2.2 = false := by
    show (fS t E (putB 0 ++ T)).2.2 = _
    unfold fS
    rw [if_pos h9, u1, u3]
    rfl
  unfold pk
  rw [v1, v2, v3, if_neg h0, if_neg (by omega), hs]
  exact pk_true _ _ _ _
theorem pk_empty {n last t : Nat} {E : En} {T : ByteArray} (h9 : t = 10 ∨ t = 11) (hl : last < t) :
    (pk eF (n + 1) last E (putB t ++ (putB 0 ++ T)) false).2.2 = true := by
  obtain ⟨v1, v2, v3⟩ := var_put t (by omega) (putB 0 ++ T)
  have hz : (⟨#[]⟩ : ByteArray) ++ T = T := empty_app T
  obtain ⟨u1, u2, u3⟩ := tex_put ⟨#[]⟩ T (by decide)
  have u0 : putB (⟨#[]⟩ : ByteArray).size ++ ((⟨#[]⟩ : ByteArray) ++ T) = putB 0 ++ T := by rw [hz]; rfl
  rw [u0] at u1 u2 u3
  have hs : (eF.S t E (putB 0 ++ T)).2.2 = false := by
    show (fS t E (putB 0 ++ T)).2.2 = _
    unfold fS
    rw [if_neg (by omega), u1, u3]
    rfl
  unfold pk
  rw [v1, v2, v3, if_neg (by omega), if_neg (by omega), hs]
  exact pk_true _ _ _ _
theorem pk_end {n last : Nat} {E : En} {T : ByteArray} {b : Bool} : pk eF (n + 1) last E (putB 0 ++ T) b = (E, T, b) := by
  obtain ⟨v1, v2, v3⟩ := var_put 0 (by omega) T
  unfold pk
  rw [v1, v2, v3, if_pos rfl]
  cases b <;> rfl
theorem pk_nil {n last : Nat} {E : En} {b : Bool} : (pk eF (n + 1) last E ⟨#[]⟩ b).2.2 = true := by
  have v1 : varV ⟨#[]⟩ = 0 := by decide +kernel
  have v3 : varO ⟨#[]⟩ = false := by decide +kernel
  unfold pk
  rw [v1, v3, if_pos rfl]
  cases b <;> rfl
theorem gO_bad {s : ByteArray} (h : (pk eF 12 0 ezz0 s false).2.2 = true) : gO s false = false := by
  have h2 : (eR s false).2.2 = true := h
  unfold gO
  rw [h2]
  rfl
theorem z0 : (⟨#[0]⟩ : ByteArray) = putB 0 := (putB_s (by decide)).symm
theorem z1 : (⟨#[1]⟩ : ByteArray) = putB 1 := (putB_s (by decide)).symm
theorem z2 : (⟨#[2]⟩ : ByteArray) = putB 2 := (putB_s (by decide)).symm
theorem z3 : (⟨#[3]⟩ : ByteArray) = putB 3 := (putB_s (by decide)).symm
theorem z10 : (⟨#[10, 0, 0]⟩ : ByteArray) = putB 10 ++ (putB 0 ++ putB 0) := by rw [putB_s (n := 10) (by decide), ← z0]; decide +kernel
theorem z102 : (⟨#[1, 0, 2]⟩ : ByteArray) = putB 1 ++ (putB 0 ++ putB 2) := by rw [← z0, ← z1, ← z2]; decide +kernel
theorem z100 : (⟨#[1, 0]⟩ : ByteArray) = putB 1 ++ putB 0 := by rw [← z0, ← z1]; decide +kernel
theorem app_nil (s : ByteArray) : s ++ (⟨#[]⟩ : ByteArray) = s := by apply ByteArray.ext; simp
theorem tag_0 (a b : Nat) (ha : a < 4294967296) (hb : b < 4294967296) : gO (⟨#[3]⟩ ++ putB (b + 1) ++ ⟨#[2]⟩ ++ putB (a + 1) ++ ⟨#[0]⟩) false = false := by
  rw [z3, z2, z0]
  simp only [append_assoc3]
  apply gO_bad
  rw [pk_num (by decide) (by decide) (by decide) (by omega) (by omega)]
  exact pk_low (by decide) (by decide) (by decide)
theorem tag_1 (a b : Nat) (ha : a < 4294967296) (hb : b < 4294967296) : gO (⟨#[2]⟩ ++ putB (a + 1) ++ ⟨#[2]⟩ ++ putB (a + 1) ++ ⟨#[3]⟩ ++ putB (b + 1) ++ ⟨#[0]⟩) false = false := by
  rw [z3, z2, z0]
  simp only [append_assoc3]
  apply gO_bad
  rw [pk_num (by decide) (by decide) (by decide) (by omega) (by omega)]
  exact pk_low (by decide) (by decide) (by decide)
theorem tag_2 (a b : Nat) (ha : a < 4294967296) (hb : b < 4294967296) : gO (⟨#[1, 0, 2]⟩ ++ putB (a + 1) ++ ⟨#[3]⟩ ++ putB (b + 1) ++ ⟨#[0]⟩) false = false := by
  rw [z102, z3, z0]
  simp only [append_assoc3]
  apply gO_bad
  exact pk_zero (by decide) (by decide) (by decide)
theorem tag_3 (a b t : Nat) (ha : a < 4294967296) (hb : b < 4294967296) (ht : t < 256) : gO (⟨#[2]⟩ ++ putB (a + 1) ++ ⟨#[3]⟩ ++ putB (b + 1) ++ putB (t + 12) ++ ⟨#[1, 0]⟩) false = false := by
  rw [z2, z3, z100]
  simp only [append_assoc3]
  apply gO_bad
  rw [pk_num (by decide) (by decide) (by decide) (by omega) (by omega), pk_num (by decide) (by decide) (by decide) (by omega) (by omega)]
  exact pk_low (by omega) (by omega) (.inr (by omega))
theorem tag_4 (a b : Nat) (ha : a < 4294967296) (hb : b < 4294967296) : gO (⟨#[2]⟩ ++ putB (a + 1) ++ ⟨#[3]⟩ ++ putB (b + 1)) false = false := by
  rw [z2, z3, ← app_nil (putB (b + 1))]
  simp only [append_assoc3]
  apply gO_bad
  rw [pk_num (by decide) (by decide) (by decide) (by omega) (by omega), pk_num (by decide) (by decide) (by decide) (by omega) (by omega)]
  exact pk_nil
theorem tag_5 (a b : Nat) (ha : a < 4294967296) (hb : b < 4294967296) : gO (⟨#[2]⟩ ++ putB (a + 1) ++ ⟨#[0]⟩) false = false := by
  rw [z2, z0, ← app_nil (putB 0)]
  simp only [append_assoc3]
  have h : eR (putB 2 ++ (putB (a + 1) ++ (putB 0 ++ ⟨#[]⟩))) false = (setN 2 ezz0 (a + 1), ⟨#[]⟩, false) := by
    unfold eR
    rw [pk_num (by decide) (by decide) (by decide) (by omega) (by omega), pk_end]
  unfold gO
  rw [h]
  have hok : (setN 2 ezz0 (a + 1)).Ok := setN_ok ezz_ok (by omega)
  cases hr : rightB (setN 2 ezz0 (a + 1)) with
  | false => rfl
  | true =>
    have h1 := (right_lims hr).2.2.1
    have h2 : (setN 2 ezz0 (a + 1)).index = 0 := rfl
    omega
theorem tag_6 (a b : Nat) (ha : a < 4294967296) (hb : b < 4294967296) : gO (⟨#[2]⟩ ++ putB (a + 1) ++ ⟨#[3]⟩ ++ putB (b + 1) ++ ⟨#[10, 0, 0]⟩) false = false := by
  rw [z2, z3, z10]
  simp only [append_assoc3]
  apply gO_bad
  rw [pk_num (by decide) (by decide) (by decide) (by omega) (by omega), pk_num (by decide) (by decide) (by decide) (by omega) (by omega)]
  exact pk_empty (by decide) (by decide)
/-- The entry that the last text is. -/
def tagE (a b : Nat) : En := ⟨a + 1, b + 1, 0, 0, 0, 0, 0, 0, 0, ⟨#[]⟩, ⟨#[]⟩⟩
theorem tagE_ok (a b : Nat) (ha : a < 4294967296) (hb : b < 4294967296) : (tagE a b).Ok := by
  have h := setN_ok (t := 3) (v := b + 1) (setN_ok (t := 2) (v := a + 1) ezz_ok (by omega)) (by omega)
  exact h
theorem tagE_r (a b : Nat) (ha : a < 4294967296) (hb : b < 4294967296) : rightB (tagE a b) = true := by
  have h1 := (asked_iff x1 x1_ok).1 x1_r
  obtain ⟨a1, a2, a3, a4, a5, a6, a7, a8, a9, a10, a11, a12, a13, a14, a15, a16, a17, a18⟩ := h1
  refine (asked_iff _ (tagE_ok a b ha hb)).2 ?_
  constructor <;> first | assumption | (show (1 : Int) ≤ _; show (1 : Int) ≤ (_ : Nat) + 1; omega)
theorem tag_7 (a b : Nat) (ha : a < 4294967296) (hb : b < 4294967296) : gO (⟨#[2]⟩ ++ putB (a + 1) ++ ⟨#[3]⟩ ++ putB (b + 1) ++ ⟨#[0]⟩) false = true ∧ gE (⟨#[2]⟩ ++ putB (a + 1) ++ ⟨#[3]⟩ ++ putB (b + 1) ++ ⟨#[0]⟩) false = tagE a b := by
  rw [z2, z3, z0, ← app_nil (putB 0)]
  simp only [append_assoc3]
  have h : eR (putB 2 ++ (putB (a + 1) ++ (putB 3 ++ (putB (b + 1) ++ (putB 0 ++ ⟨#[]⟩))))) false = (tagE a b, ⟨#[]⟩, false) := by
    unfold eR
    rw [pk_num (by decide) (by decide) (by decide) (by omega) (by omega), pk_num (by decide) (by decide) (by decide) (by omega) (by omega), pk_end]
    rfl
  have h1 : gO (putB 2 ++ (putB (a + 1) ++ (putB 3 ++ (putB (b + 1) ++ (putB 0 ++ ⟨#[]⟩))))) false = true := by
    unfold gO
    rw [h, tagE_r a b ha hb]
    rfl
  refine ⟨h1, ?_⟩
  rw [(gO_yes h1).1, h]
end Go.Proofs.YtmalcldpihpfpaaGreat
