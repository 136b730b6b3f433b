/-
  Short names of laws of the library.
  Conditions: none.
-/
import Derived.Test.YtnobeoppffoomaaGreatRows
import Derived.WalkKit
import Derived.WalkSpells
import Derived.WalkLawsBesides
import Derived.Lib.Hide
import Derived.Deep.RegionHeld3
namespace Go.Proofs.YtnobeoppffoomaaGreat
open Go.RowKit
abbrev zcr := @cell_of_row
abbrev zh := @Lib.hid
theorem zgx {α : Type} {xs : Array α} {i : Nat} {a : α} (h : xs[i]? = some a) : i < xs.size := (Array.getElem?_eq_some_iff.1 h).1
end Go.Proofs.YtnobeoppffoomaaGreat
