/-
  Are two messages the same: the package's way and the document's.
  Conditions: named in each theorem.
-/
import Derived.Test.YtpdbeijfchmlgaaMRB11
import Derived.Test.YtpdbeijfchmlgaaSmall
import Derived.Test.YtpdbeijfchmlgaaMkFacts
import Derived.Deep.RegionHeld3
namespace Go.Proofs.Ytpdbeijfchmlgaa
open Go.RowKit
set_option linter.unusedVariables false

/-- The first k entries of both are the same. -/
def preB (es fs : List En) (k : Nat) : Bool := (List.zipWith sameB (es.take k) (fs.take k)).all id
theorem preB_step (es fs : List En) (k : Nat) (e f : En) (he : es[k]? = some e) (hf : fs[k]? = some f) : preB es fs (k + 1) = (preB es fs k && sameB e f) := by
  unfold preB
  have h1 : es.take (k + 1) = es.take k ++ [e] := by rw [List.take_add_one, he]; rfl
  have h2 : fs.take (k + 1) = fs.take k ++ [f] := by rw [List.take_add_one, hf]; rfl
  have l1 : (es.take k).length = (fs.take k).length := by
    have := (List.getElem?_eq_some_iff.1 he).1
    have := (List.getElem?_eq_some_iff.1 hf).1
    rw [List.length_take, List.length_take]
    omega
  rw [h1, h2, List.zipWith_append l1, List.all_append]
  simp
/-- The entries are the same. -/
def entsB (n k : Nat) (es fs : List En) : Bool := decide (n = k) && preB es fs n
theorem entsB_len {n k : Nat} {es fs : List En} (h : n ≠ k) : entsB n k es fs = false := by
  unfold entsB
  rw [decide_eq_false h]
  rfl
theorem preB_stop {es fs : List En} {k n : Nat} (h : preB es fs k = false) (hk : k ≤ n) (h1 : es.length = n) (h2 : fs.length = n) : preB es fs n = false := by
  obtain ⟨d, rfl⟩ : ∃ d, n = k + d := ⟨n - k, by omega⟩
  have hd : ∀ j, k + j ≤ k + d → preB es fs (k + j) = false := by
    intro j
    induction j with
    | zero => intro _; exact h
    | succ j ih =>
      intro hj
      obtain ⟨e, he⟩ : ∃ e, es[k + j]? = some e := ⟨_, List.getElem?_eq_getElem (by omega)⟩
      obtain ⟨f, hf⟩ : ∃ f, fs[k + j]? = some f := ⟨_, List.getElem?_eq_getElem (by omega)⟩
      rw [show k + (j + 1) = (k + j) + 1 by omega, preB_step es fs (k + j) e f he hf, ih (by omega)]
      rfl
  exact hd d (Nat.le_refl _)

end Go.Proofs.Ytpdbeijfchmlgaa
