/-
  The mathematics of New: a sorted list without doubles rises.
  Conditions: named in each theorem.
-/
import Derived.Test.YtmencfmjmbbfhaaDoorLNx
namespace Go.Proofs.YtmencfmjmbbfhaaDoor
open Go.RowKit
set_option linter.unusedVariables false
set_option linter.unusedSimpArgs false
theorem compact_upto (d : Array Int) (hs : ∀ i j, i ≤ j → j < d.size → d[i]! ≤ d[j]!) : ∀ m, m ≤ d.size →
    (Lib.compactUpTo d m).Pairwise (· < ·) ∧ (∀ x ∈ Lib.compactUpTo d m, x ≤ d[m - 1]! ∧ ∃ i, i < m ∧ x = d[i]!) ∧ (0 < m → Lib.compactUpTo d m ≠ [])
  | 0, _ => by simp [Lib.compactUpTo]
  | m + 1, hm => by
    obtain ⟨h1, h2, h3⟩ := compact_upto d hs m (by omega)
    rw [Lib.compactUpTo_succ]
    cases hk : Lib.keeps d m
    · have hm0 : 0 < m := by
        rcases Nat.eq_zero_or_pos m with rfl | h
        · rw [Lib.keeps_lt_one d 0 (by omega)] at hk; cases hk
        · exact h
      have he : d[m]! = d[m - 1]! := by
        by_cases he : d[m]! = d[m - 1]!
        · exact he
        · rw [Lib.keeps_pos he] at hk; cases hk
      simp only [Bool.false_eq_true, if_false, List.append_nil]
      refine ⟨h1, fun x hx => ⟨?_, ?_⟩, fun _ => h3 hm0⟩
      · rw [show m + 1 - 1 = m from rfl, he]; exact (h2 x hx).1
      · obtain ⟨i, hi, hx⟩ := (h2 x hx).2; exact ⟨i, by omega, hx⟩
    · simp only [if_true]
      refine ⟨?_, ?_, fun _ => by simp⟩
      · rw [List.pairwise_append]
        refine ⟨h1, by simp, ?_⟩
        intro a ha b hb
        rw [List.mem_singleton] at hb
        subst hb
        have hm0 : 0 < m := by
          rcases Nat.eq_zero_or_pos m with rfl | h
          · simp [Lib.compactUpTo] at ha
          · exact h
        have he : d[m]! ≠ d[m - 1]! := fun he => by rw [Lib.keeps_neg hm0 he] at hk; cases hk
        have h4 := hs (m - 1) m (by omega) (by omega)
        have h5 := (h2 a ha).1
        omega
      · intro x hx
        rw [show m + 1 - 1 = m from rfl]
        rcases List.mem_append.1 hx with hx | hx
        · obtain ⟨i, hi, rfl⟩ := (h2 x hx).2
          exact ⟨hs i m (by omega) (by omega), i, by omega, rfl⟩
        · rw [List.mem_singleton] at hx
          subst hx
          exact ⟨Int.le_refl _, m, by omega, rfl⟩
theorem rise_ofP {lo : Int} : ∀ {l : List Int}, l.Pairwise (· < ·) → (∀ x ∈ l, lo ≤ x ∧ x ≤ 7) → rise lo l = true
  | [], _, _ => rfl
  | x :: xs, h, hb => by
    rw [rise_cons]
    rw [List.pairwise_cons] at h
    exact ⟨hb x (by simp), rise_ofP h.2 (fun y hy => ⟨by have := h.1 y hy; omega, (hb y (by simp [hy])).2⟩)⟩
theorem srt_sorted (l : List Int) : (srt l).Pairwise (· ≤ ·) := by
  have h := List.pairwise_mergeSort (le := fun x y : Int => decide (x ≤ y)) (fun a b c h1 h2 => by simp at h1 h2 ⊢; omega) (fun a b => by simp; omega) l
  exact h.imp (fun h => by simpa using h)
theorem srt_mem (l : List Int) (x : Int) : x ∈ srt l ↔ x ∈ l := List.mem_mergeSort
theorem cmp_facts (l : List Int) : (cmp l).Pairwise (· < ·) ∧ (∀ x ∈ cmp l, x ∈ l) ∧ (l ≠ [] → cmp l ≠ []) := by
  have hs : ∀ i j, i ≤ j → j < (srt l).toArray.size → (srt l).toArray[i]! ≤ (srt l).toArray[j]! := by
    intro i j hij hj
    have hj' : j < (srt l).length := by simpa using hj
    have h := List.pairwise_iff_getElem.1 (srt_sorted l)
    rcases Nat.eq_or_lt_of_le hij with rfl | hlt
    · exact Int.le_refl _
    · have := h i j (by omega) hj' hlt
      rw [getElem!_pos (srt l).toArray i (by simp; omega), getElem!_pos (srt l).toArray j (by simp; omega)]
      simpa using this
  obtain ⟨h1, h2, h3⟩ := compact_upto (srt l).toArray hs (srt l).length (by simp)
  refine ⟨h1, fun x hx => ?_, fun hn => h3 ?_⟩
  · obtain ⟨_, i, hi, rfl⟩ := h2 x hx
    rw [getElem!_pos (srt l).toArray i (by simp; omega)]
    refine (srt_mem l _).1 ?_
    simp
  · rw [srt_length]; exact List.length_pos_iff.2 hn
theorem newC_right (l : List Int) (hn : l ≠ []) (hb : ∀ x ∈ l, 1 ≤ x ∧ x ≤ 7) : RightC (newC l) := by
  obtain ⟨h1, h2, h3⟩ := cmp_facts l
  refine { n := List.length_pos_iff.2 (h3 hn), r := rise_ofP h1 (fun x hx => hb x (h2 x hx)), l1 := ?_, l2 := ?_, f := fun h => ?_, hn := ?_, ha := fun x hx => ?_ }
  · show (1 : Int) ≤ 1; decide
  · show (1 : Int) ≤ 2; decide
  · exact absurd h (by simp [newC])
  · show (List.replicate (cmp l).length (1 : Int)).length = (cmp l).length; simp
  · have : x = 1 := (List.mem_replicate.1 (show x ∈ List.replicate (cmp l).length (1 : Int) from hx)).2
    subst this
    exact ⟨by show (1 : Int) ≤ 1; decide, by decide⟩
theorem newC_212 : newC [2, 1, 2] = ⟨[1, 2], [1, 1], 1, false⟩ := by
  have h : srt [2, 1, 2] = [1, 2, 2] := by
    unfold srt
    simp [List.mergeSort, List.MergeSort.Internal.splitInTwo, List.merge]
  have h2 : cmp [2, 1, 2] = [1, 2] := by
    unfold cmp; rw [h]; decide
  unfold newC
  rw [h2]; rfl
end Go.Proofs.YtmencfmjmbbfhaaDoor
