/-
  The document's own level of an entry, and sameness.
  Conditions: none.
-/
import Derived.Test.YtclohjcenkpgoaaDoorExam
import Derived.Test.YtclohjcenkpgoaaDoorSame
namespace Go.Proofs.YtclohjcenkpgoaaDoor
open Go.RowKit
set_option linter.unusedVariables false
set_option maxRecDepth 100000 in
set_option maxHeartbeats 1000000 in
theorem rlevel_any (e : En) (w : World) : Calls Tryd.prog 16 #[ev e] w fun r w' => r = .returned (.int .i64 (lvl e.kind)) ∧ Below w.heap.size w w' := by
  by_cases h : e.kind = 11
  · have hT : Hid (lvl e.kind = 2) := by show _ = _; unfold lvl; rw [if_pos h]
    have h2 : (e.kind == 11) = true := by simpa using h
    clear h
    go_enter Tryd.func16, Tryd.ntmps16
    go_wp2
    go_ret
    exact ⟨by rw [hT.out]; rfl, (Below.refl _ _).alloc (Nat.le_refl _) _⟩
  · have hT : Hid (lvl e.kind = 1) := by show _ = _; unfold lvl; rw [if_neg h]
    have h2 : (e.kind == 11) = false := beqF h
    clear h
    go_enter Tryd.func16, Tryd.ntmps16
    go_wp2
    go_ret
    exact ⟨by rw [hT.out]; rfl, (Below.refl _ _).alloc (Nat.le_refl _) _⟩
set_option maxRecDepth 100000 in
set_option maxHeartbeats 1000000 in
theorem rsame_any (a b : En) (w : World) :
    Calls Tryd.prog 20 #[ev a, ev b] w fun r w' => r = .returned (.bool (sameB a b)) ∧ Below w.heap.size w w' := by
  have he := fun W => eql_entry a b W
  go_enter Tryd.func20, Tryd.ntmps20
  go_wp2
  go_ret
  exact ⟨rfl, ((Below.refl _ _).alloc (Nat.le_refl _) _).alloc (by simp) _⟩
end Go.Proofs.YtclohjcenkpgoaaDoor
