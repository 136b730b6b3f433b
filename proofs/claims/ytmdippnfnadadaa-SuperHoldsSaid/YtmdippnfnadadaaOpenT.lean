/-
  A slice of texts that came in, opened, with its capacity.
  Conditions: named in each theorem.
-/
import Derived.Test.YtmdippnfnadadaaOpenS
namespace Go.Proofs.Ytmdippnfnadadaa
open Go.ChangeShapes Go.WideShapes Go.ChangeAt Go.RowKit
set_option linter.unusedVariables false
theorem open_strs2 {H : Type} {enc : TypeId × Value → H} {w : World} {base fuel : Nat} {A : Option Addr} {len cap : Nat} {held : Bool} {x : DataW H × List MemPlace}
    (h : DataW.trod enc Try.prog w base (fun _ => true) held fuel 53 [.slice A len cap] = some x) : StrsAt w A len ∧ (len : Int) ≤ 9223372036854775807 ∧ len ≤ cap ∧ (A = none → len = 0 ∧ cap = 0) := by
  have h12 := open_strs h
  refine ⟨h12.1, h12.2, ?_⟩
  rcases Deep.open_slice1 Try.underlying53 strs_cells9 h with ⟨hcs, _⟩ | ⟨a, len', cap', m, n, V, D, Pl, hcs, hz, hl, hm, hmm, _, hx⟩
  · simp at hcs
    obtain ⟨rfl, rfl, rfl⟩ := hcs
    exact ⟨Nat.le_refl _, fun _ => ⟨rfl, rfl⟩⟩
  · simp at hcs
    obtain ⟨rfl, rfl, rfl⟩ := hcs
    exact ⟨by omega, fun h => by cases h⟩
end Go.Proofs.Ytmdippnfnadadaa
