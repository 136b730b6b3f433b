/-
  What the lifting of each law of this seat shares: a world for the witness.
  Conditions: named in each theorem.
-/
import Derived.Test.YtmencfmjmbbfhaaDoorRows
import Derived.WalkKit
import Derived.ProofKit
import Derived.Deep.DeepHandedRow
import Derived.Lib.LaidTab
import Derived.Stop.LaidErr
namespace Go.Proofs.YtmencfmjmbbfhaaDoor
open Go.ChangeShapes Go.WideShapes Go.ChangeAt Go.RowKit
set_option linter.unusedVariables false

abbrev seatLaid : List (String × DataW Unit) := Rows.levelPutsRow.laid
theorem seat_own : ownKnob Tryd.prog.godebug = none := by kernel_rfl
/-- No walk of this seat leans on the tables. -/
def Tab (W : World) : Prop := True
theorem table_of {W : World} (h : laidMetH Tryd.prog seatLaid W) : Tab W := trivial

def litOf : DataW Unit → Value
  | DataW.lit (Lit.int k z) => Value.int k z
  | _ => undef
def litsOf : DataW Unit → Array Value
  | DataW.agg l => (l.map litOf).toArray
  | _ => #[]
def t32 : Array Value := litsOf Rows.laid_math_bits_deBruijn32tab
def t64 : Array Value := litsOf Rows.laid_math_bits_deBruijn64tab
def tp10 : Array Value := litsOf Rows.laid_internal_strconv_uint64pow10
/-- A world for the witness: the tables hold what their initialisers lay. -/
noncomputable def laidWorld (os : Os) : World :=
  { World.holding Tryd.prog os ⟨#[], #[], []⟩ with heap := ((((World.holding Tryd.prog os ⟨#[], #[], []⟩).heap.modify 0 fun
      | .cells _ t frozen => .cells tp10 t frozen
      | o => o).modify 2 fun
      | .cells _ t frozen => .cells t32 t frozen
      | o => o).modify 3 fun
      | .cells _ t frozen => .cells t64 t frozen
      | o => o) }

end Go.Proofs.YtmencfmjmbbfhaaDoor
