/-
  FrameCodes: part G48.
  Conditions: named in each theorem.
-/
import Derived.Test.YtpdbeijfchmlgaaGreatZ0
import Derived.Test.YtpdbeijfchmlgaaGreatG05
set_option linter.unusedVariables false
set_option linter.unusedSimpArgs false
set_option maxHeartbeats 16000000
set_option maxRecDepth 100000
namespace Go.Proofs.YtpdbeijfchmlgaaGreat
open Go.RowKit
open Vi
theorem new2 (u:ByteArray) (w:World):Calls Tryz.prog 80 #[.string u] w fun q w'=>q=.returned (.pointer (some ⟨w.heap.size,0,none⟩))∧Rd 178 w.heap.size u false w'∧Below w.heap.size w w'∧w'.heap.size=w.heap.size+1:=by
 refine (new_any u w).mono ?_;rintro q w' ⟨h1,rfl⟩;exact ⟨h1,Rd.new w 178 u false,zba,by simp⟩
theorem rnew2 (u:ByteArray) (w:World):Calls Tryz.prog 42 #[.string u] w fun q w'=>q=.returned (.pointer (some ⟨w.heap.size,0,none⟩))∧Rd 72 w.heap.size u false w'∧Below w.heap.size w w'∧w'.heap.size=w.heap.size+1:=by
 refine (rnew_any u w).mono ?_;rintro q w' ⟨h1,rfl⟩;exact ⟨h1,Rd.new w 72 u false,zba,by simp⟩
theorem ok2 (g:Nat) (T:ByteArray) (f:Bool) (w:World) (h:Rd 178 g T f w):Calls Tryz.prog 81 #[.pointer (some ⟨g,0,none⟩)] w fun q w'=>q=.returned (.bool (!f))∧w=w':=ok_any g T f w h
theorem left2 (g:Nat) (T:ByteArray) (f:Bool) (w:World) (h:Rd 178 g T f w):Calls Tryz.prog 82 #[.pointer (some ⟨g,0,none⟩)] w fun q w'=>q=.returned (.int .i64 T.size)∧w=w':=left_any g T f w h
end Go.Proofs.YtpdbeijfchmlgaaGreat
