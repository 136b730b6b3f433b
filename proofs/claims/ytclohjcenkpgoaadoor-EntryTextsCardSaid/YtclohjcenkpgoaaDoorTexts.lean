/-
  EntryTexts, walked: true for every input.
  Conditions: the table of powers of ten lies as its initialiser lays it; the numbers are those of their kinds.
-/
import Derived.Test.YtclohjcenkpgoaaDoorTex0
import Derived.Test.YtclohjcenkpgoaaDoorTex1
import Derived.Test.YtclohjcenkpgoaaDoorTex2
import Derived.Test.YtclohjcenkpgoaaDoorTex3
import Derived.Test.YtclohjcenkpgoaaDoorTex4
import Derived.Test.YtclohjcenkpgoaaDoorTex5
import Derived.Test.YtclohjcenkpgoaaDoorTex6
namespace Go.Proofs.YtclohjcenkpgoaaDoor
open Go.RowKit
set_option linter.unusedVariables false
theorem texts_any (e : En) (o : Bool) (how n : Nat) (s : ByteArray) (w : World) (ok : e.Ok) (hh : how < 256) (hn : n < 256) (hs : s.size ≤ 140737488351232) (ht : Tab w) :
    Calls Tryd.prog 5 #[mdv e o, .int .u8 how, .int .u8 n, .string s] w fun r w' => r = .returned (.bool true) ∧ Below w.heap.size w w' := by
  rcases (show (how : Int) % 7 = 0 ∨ (how : Int) % 7 = 1 ∨ (how : Int) % 7 = 2 ∨ (how : Int) % 7 = 3 ∨ (how : Int) % 7 = 4 ∨ (how : Int) % 7 = 5 ∨ (how : Int) % 7 = 6 by omega) with h | h | h | h | h | h | h
  · exact texts_0 e o how n s w ok (by omega) (by omega) hs (by omega) h ht
  · exact texts_1 e o how n s w ok (by omega) (by omega) hs (by omega) h ht
  · exact texts_2 e o how n s w ok (by omega) (by omega) hs (by omega) h ht
  · exact texts_3 e o how n s w ok (by omega) (by omega) hs (by omega) h ht
  · exact texts_4 e o how n s w ok (by omega) (by omega) hs (by omega) h ht
  · exact texts_5 e o how n s w ok (by omega) (by omega) hs (by omega) h ht
  · exact texts_6 e o how n s w ok (by omega) (by omega) hs (by omega) h ht
end Go.Proofs.YtclohjcenkpgoaaDoor
