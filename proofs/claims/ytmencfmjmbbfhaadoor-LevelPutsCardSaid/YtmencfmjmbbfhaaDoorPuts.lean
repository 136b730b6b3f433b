/-
  LevelPuts, in the form that its lifting asks.
  Conditions: the inputs are of their kinds.
-/
import Derived.Test.YtmencfmjmbbfhaaDoorLLp
import Derived.Test.YtmencfmjmbbfhaaDoorLift
namespace Go.Proofs.YtmencfmjmbbfhaaDoor
open Go.RowKit
set_option linter.unusedVariables false
theorem levelPuts_walk (a0 : Nat) (a1 a2 : Bool) (a3 a4 : Nat) (w : World) (z0 : a0 < 256) (z3 : a3 < 256) (z4 : a4 < 256) (ht : Tab w) :
    Calls Tryd.prog 6 #[.int .u8 a0, .bool a1, .bool a2, .int .u8 a3, .int .u8 a4] w fun r w' => r = .returned (.bool true) ∧ Below w.heap.size w w' := levelPuts_any a0 a3 a4 a1 a2 z0 z3 z4 w
end Go.Proofs.YtmencfmjmbbfhaaDoor
