/-
  ImageFull: the closed facts of its row.
  Conditions: none.
-/
import Derived.Test.YtidndekacnmihaaGreatRows
import Derived.WalkKit
import Derived.ProofKit
import Derived.OpenShut
namespace Go.Proofs.YtidndekacnmihaaGreat
open Go.ChangeShapes Go.WideShapes Go.ChangeAt Go.RowKit
theorem iF1 : (Rows.imageFullRow.inPlace == Tryz.pinned.checked.prog.inPlace 7) = true := by kernel_rfl
theorem iF2 : (Rows.imageFullRow.unfollowed == Tryz.pinned.checked.prog.unfollowed 7) = true := by kernel_rfl
theorem iF3 : (Rows.imageFullRow.recurses == Tryz.pinned.checked.prog.recurses 7) = true := by kernel_rfl
theorem iF4 : (Rows.imageFullRow.named == Tryz.pinned.checked.prog.varsNamed 7) = true := by kernel_rfl
theorem iF5 : laidOutB Tryz.pinned.checked.prog = true := by kernel_rfl
theorem iF6 : joinedFacts Tryz.pinned.checked.prog 7 Tryz.f7 Rows.imageFullSpec Rows.imageFullRow = true := by
  unfold joinedFacts
  rw [iF1, iF2, iF3, iF4, iF5]
  kernel_rfl
end Go.Proofs.YtidndekacnmihaaGreat
