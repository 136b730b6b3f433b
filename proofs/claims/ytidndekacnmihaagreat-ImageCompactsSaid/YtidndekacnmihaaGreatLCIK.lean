/-
  ImageCompacts: the closed facts of its row.
  Conditions: none.
-/
import Derived.Test.YtidndekacnmihaaGreatRows
import Derived.WalkKit
import Derived.ProofKit
import Derived.OpenShut
namespace Go.Proofs.YtidndekacnmihaaGreat
open Go.ChangeShapes Go.WideShapes Go.ChangeAt Go.RowKit
theorem iC1 : (Rows.imageCompactsRow.inPlace == Tryz.pinned.checked.prog.inPlace 6) = true := by kernel_rfl
theorem iC2 : (Rows.imageCompactsRow.unfollowed == Tryz.pinned.checked.prog.unfollowed 6) = true := by kernel_rfl
theorem iC3 : (Rows.imageCompactsRow.recurses == Tryz.pinned.checked.prog.recurses 6) = true := by kernel_rfl
theorem iC4 : (Rows.imageCompactsRow.named == Tryz.pinned.checked.prog.varsNamed 6) = true := by kernel_rfl
theorem iC5 : laidOutB Tryz.pinned.checked.prog = true := by kernel_rfl
theorem iC6 : joinedFacts Tryz.pinned.checked.prog 6 Tryz.f6 Rows.imageCompactsSpec Rows.imageCompactsRow = true := by
  unfold joinedFacts
  rw [iC1, iC2, iC3, iC4, iC5]
  kernel_rfl
end Go.Proofs.YtidndekacnmihaaGreat
