/-
  A slice of texts that came in, opened.
  Conditions: named in each theorem.
-/
import Derived.Test.YtmdippnfnadadaaRows
import Derived.Test.YtmdippnfnadadaaLTurns
import Derived.WalkKit
import Derived.ProofKit
import Derived.OpenShut
import Derived.ShutString
import Derived.ChangeOld
import Derived.Below
import Derived.SizedLaws
import Derived.Carry
import Derived.Deep.Slices
import Derived.ChangeSame
namespace Go.Proofs.Ytmdippnfnadadaa
open Go.ChangeShapes Go.WideShapes Go.ChangeAt Go.RowKit
open Go.ChangeMaps (open_string shut_string)
set_option linter.unusedVariables false
theorem lt_of_cell {w : World} {a : Addr} {v : Value} (h : w.cell? a = some v) : a.block < w.heap.size := by
  rcases Nat.lt_or_ge a.block w.heap.size with h1 | h1
  · exact h1
  · simp [World.cell?, Array.getElem?_eq_none h1] at h
theorem seat_laidOut : laidOutB Try.prog = true := by kernel_rfl
theorem strs_cells9 : Try.prog.cellsOf 9 = 1 := by kernel_rfl
theorem open_strs {H : Type} {enc : TypeId × Value → H} {w : World} {base fuel : Nat} {A : Option Addr} {len cap : Nat} {held : Bool} {x : DataW H × List MemPlace}
    (h : DataW.trod enc Try.prog w base (fun _ => true) held fuel 53 [.slice A len cap] = some x) : StrsAt w A len ∧ (len : Int) ≤ 9223372036854775807 := by
  rcases Deep.open_slice1 Try.underlying53 strs_cells9 h with ⟨hcs, _⟩ | ⟨a, len', cap', m, n, V, D, Pl, hcs, _, hl, hm, hmm, _, hx⟩
  · simp at hcs
    obtain ⟨rfl, rfl, rfl⟩ := hcs
    exact ⟨fun i hi => by omega, by omega⟩
  · simp at hcs
    obtain ⟨rfl, rfl, rfl⟩ := hcs
    simp only [if_true] at hmm
    refine ⟨fun i hi => ?_, by simp only [maxLen] at hm; omega⟩
    obtain ⟨hc, ht⟩ := hx i (by omega)
    obtain ⟨s, hs, _, _⟩ := DataW.trod_string Try.underlying9 ht
    simp at hs
    rw [hs] at hc
    exact ⟨a, s, rfl, by have := lt_of_cell hc; rwa [badd] at this, hc⟩
end Go.Proofs.Ytmdippnfnadadaa
