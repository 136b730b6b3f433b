/-
  What the lifting of each law of this seat shares: the table out of the list of variables; a world for the witness.
  Conditions: named in each theorem.
-/
import Derived.Test.YtclohjcenkpgoaaDoorRows
import Derived.Test.YtclohjcenkpgoaaDoorDig
import Derived.WalkKit
import Derived.ProofKit
import Derived.Deep.DeepHandedRow
import Derived.Lib.LaidTab
import Derived.Stop.LaidErr
namespace Go.Proofs.YtclohjcenkpgoaaDoor
open Go.ChangeShapes Go.WideShapes Go.ChangeAt Go.RowKit
set_option linter.unusedVariables false

abbrev seatLaid : List (String × DataW Unit) := Rows.entryBoundsRow.laid
theorem seat_own : ownKnob Tryd.prog.godebug = none := by kernel_rfl
theorem gTab : Tryd.prog.globalNamed "internal/strconv.uint64pow10" = some 1 := by kernel_rfl
theorem gTabType : (Tryd.prog.globals[1]?).map (·.type) = some 109 := by kernel_rfl
theorem cells109 : Tryd.prog.cellsOf 109 = 20 := by kernel_rfl
theorem cells22 : Tryd.prog.cellsOf 22 = 1 := by kernel_rfl
set_option maxRecDepth 100000 in
/-- The list of what the variables hold gives the table. -/
theorem table_of {W : World} (h : laidMetH Tryd.prog seatLaid W) : Tab W := by
  have h3 : laidMet Tryd.prog [("internal/strconv.uint64pow10", Lib.tabData .u64 Lib.pow10Tab)] W := laidMet.tail (laidMet.tail h)
  exact Lib.tabIs_of_head (rest := []) gTab gTabType Tryd.underlying109 Tryd.underlying22 cells22 cells109 h3

def litOf : DataW Unit → Value
  | DataW.lit (Lit.int k z) => Value.int k z
  | _ => undef
def litsOf : DataW Unit → Array Value
  | DataW.agg l => (l.map litOf).toArray
  | _ => #[]
def t32 : Array Value := litsOf Rows.laid_math_bits_deBruijn32tab
def t64 : Array Value := litsOf Rows.laid_math_bits_deBruijn64tab
def tp10 : Array Value := litsOf Rows.laid_internal_strconv_uint64pow10
/-- A world for the witness: the tables hold what their initialisers lay. -/
noncomputable def laidWorld (os : Os) : World :=
  { World.holding Tryd.prog os ⟨#[], #[], []⟩ with heap := ((((World.holding Tryd.prog os ⟨#[], #[], []⟩).heap.modify 1 fun
      | .cells _ t frozen => .cells tp10 t frozen
      | o => o).modify 2 fun
      | .cells _ t frozen => .cells t32 t frozen
      | o => o).modify 3 fun
      | .cells _ t frozen => .cells t64 t frozen
      | o => o) }

end Go.Proofs.YtclohjcenkpgoaaDoor
