/-
  What waits, as a map: its keys, its size, a store, a deletion.
  Conditions: named in each theorem.
-/
import Derived.Test.YtdoombcihobejaaGreatNew
import Derived.Lib.SlKeysI
namespace Go.Proofs.YtdoombcihobejaaGreat
open Go.RowKit Dk
set_option linter.unusedVariables false
theorem law3 : Maps.Keyed Tryz.prog 3 := Maps.int_keyed Tryz.underlying3
theorem isKey_i64 (i : Int) : WideAt.IsKeyLit (.int .i64 i) := trivial
/-- The places below n at which something waits, rising. -/
def Dk.wl (M : Nat → Option Sec) (n : Nat) : List Nat := (List.range n).filter fun i => (M i).isSome
theorem nodup_map_cast {l : List Nat} (h : l.Nodup) : (l.map fun (i : Nat) => (i : Int)).Nodup := by
  unfold List.Nodup at *
  rw [List.pairwise_map]
  exact h.imp (fun hne e => hne (Int.ofNat.inj e))
theorem wl_nodup (M : Nat → Option Sec) (n : Nat) : (Dk.wl M n).Nodup := List.Pairwise.filter _ List.nodup_range
theorem keys_perm {w : World} {mb k n : Nat} {D : DataW Unit} {M : Nat → Option Sec} (h : w.ownsMap Tryz.prog 3 secR mb k D) (hM : MapIs D M) (hn : ∀ i s, M i = some s → i < n) :
    ((Dk.wl M n).map fun (i : Nat) => (i : Int)).Perm (intKeys D) := by
  obtain ⟨es, rfl, hp, hk⟩ := h.entries law3
  have hk2 : ∀ p ∈ es, ∃ x, p.1 = .int .i64 x := by
    obtain ⟨es', he, _, hK⟩ := h.canonK law3
    cases he
    intro p hp
    obtain ⟨v, hv⟩ := hK p hp
    obtain ⟨x, _, hx, _⟩ := Maps.keyOf_i64 Tryz.underlying3 hv
    exact ⟨x, hx⟩
  refine perm_intKeys hp hk2 (nodup_map_cast (wl_nodup M n)) (fun x => ?_)
  rw [hM.1 x]
  simp only [List.mem_map, Dk.wl, List.mem_filter, List.mem_range, Bool.and_eq_true, decide_eq_true_eq]
  constructor
  · rintro ⟨i, ⟨_, hi⟩, rfl⟩
    exact ⟨by omega, by simpa using hi⟩
  · rintro ⟨h0, hs⟩
    obtain ⟨s, hs'⟩ := Option.isSome_iff_exists.1 hs
    exact ⟨x.toNat, ⟨hn _ _ hs', hs⟩, by omega⟩
theorem size_keys (D : DataW Unit) : (intKeys D).length = Maps.size D := by
  cases D <;> simp [intKeys, Maps.size]
theorem wl_length (M : Nat → Option Sec) (n : Nat) : (Dk.wl M n).length ≤ n := by
  have := List.length_filter_le (fun i => (M i).isSome) (List.range n)
  rw [List.length_range] at this
  exact this
theorem mapSize_le {w : World} {mb k n : Nat} {D : DataW Unit} {M : Nat → Option Sec} (h : w.ownsMap Tryz.prog 3 secR mb k D) (hM : MapIs D M) (hn : ∀ i s, M i = some s → i < n) : Maps.size D ≤ n := by
  have := (keys_perm h hM hn).length_eq
  rw [List.length_map, size_keys] at this
  rw [← this]
  exact wl_length M n
theorem owns_tight {w : World} {mb k n : Nat} {D : DataW Unit} (h : w.ownsMap Tryz.prog 3 secR mb k D) (hn : Maps.size D ≤ n) : w.ownsMap Tryz.prog 3 secR mb n D := by
  obtain ⟨es, clock, hb, F, hs, rfl⟩ := h
  refine ⟨es, clock, hb, F, ?_, rfl⟩
  simpa [Maps.size, length_sorted] using hn
theorem mapIs_put {D : DataW Unit} {M : Nat → Option Sec} (h : MapIs D M) (hm : Maps.IsMap D) (i : Nat) (s : Sec) : MapIs (D.put (.int .i64 i) (.lit (.string s))) (fun j => if j = i then some s else M j) := by
  refine ⟨fun x => ?_, fun j t hj z => ?_⟩
  · by_cases e : x = (i : Int)
    · subst e
      rw [Maps.has_put_same hm (isKey_i64 _)]
      simp
    · rw [Maps.has_put_other (fun e1 => e (by cases e1; rfl)), h.1 x]
      by_cases h0 : 0 ≤ x
      · have : x.toNat ≠ i := by omega
        simp only [h0, decide_true, Bool.true_and, if_neg this]
      · simp [h0]
  · change (if j = i then some s else M j) = some t at hj
    by_cases e : j = i
    · subst e
      rw [if_pos rfl] at hj
      cases hj
      exact Maps.atKey_put_same hm (isKey_i64 _) _ z
    · rw [if_neg e] at hj
      rw [Maps.atKey_put_other (fun e1 => e (by cases e1; rfl))]
      exact h.2 j t hj z
theorem mapIs_del {D : DataW Unit} {M : Nat → Option Sec} (h : MapIs D M) (i : Int) : MapIs (D.del (.int .i64 i)) (fun j => if (j : Int) = i then none else M j) := by
  refine ⟨fun x => ?_, fun j t hj z => ?_⟩
  · by_cases e : x = i
    · subst e
      rw [Maps.has_del_same]
      show false = (decide (0 ≤ x) && (if (x.toNat : Int) = x then none else M x.toNat).isSome)
      by_cases h0 : 0 ≤ x
      · rw [if_pos (by omega)]; simp
      · simp [h0]
    · rw [Maps.has_del_other (fun e1 => e (by cases e1; rfl)), h.1 x]
      show _ = (decide (0 ≤ x) && (if (x.toNat : Int) = i then none else M x.toNat).isSome)
      by_cases h0 : 0 ≤ x
      · rw [if_neg (by omega)]
      · simp [h0]
  · change (if (j : Int) = i then none else M j) = some t at hj
    split at hj
    · cases hj
    · rename_i e
      rw [Maps.atKey_del_other (fun e1 => e (by cases e1; rfl))]
      exact h.2 j t hj z
/-- A map that reads so has just one reading at a place. -/
theorem mapIs_uniq {D : DataW Unit} {M M' : Nat → Option Sec} (h : MapIs D M) (h' : MapIs D M') : M = M' := by
  funext i
  have a := h.1 i
  have b := h'.1 i
  rw [a] at b
  simp only [Int.toNat_natCast, Int.natCast_nonneg, decide_true, Bool.true_and] at b
  cases e : M i with
  | none =>
    rw [e] at b
    cases e' : M' i with
    | none => rfl
    | some t => rw [e'] at b; simp at b
  | some s =>
    rw [e] at b
    cases e' : M' i with
    | none => rw [e'] at b; simp at b
    | some t =>
      have x := h.2 i s e .nil
      rw [h'.2 i t e' .nil] at x
      cases x
      rfl
end Go.Proofs.YtdoombcihobejaaGreat
