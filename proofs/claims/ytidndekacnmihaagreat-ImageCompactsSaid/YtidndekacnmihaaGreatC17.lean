/- Parts of a proof. -/
import Derived.Test.YtidndekacnmihaaGreatC16
set_option linter.all false
set_option maxHeartbeats 8000000
set_option maxRecDepth 100000
namespace Go.Proofs.YtidndekacnmihaaGreat
namespace D
open Go.RowKit
open Vi
theorem zpW {X:En} (ok:X.Ok) (fw:zfY X):(sbE X).size≤1000:=by
 have h:=zgY ok fw 11 (ztI _);show (zdA eF X 11++zaE 0).size≤1000;rw [ztS]
 have:=zbD 0 (by omega)
 omega
section
variable {w0 w w1:World} {fb B n:Nat} {A:Option Addr} {es:List En} {x y:ByteArray}
end
end D
end Go.Proofs.YtidndekacnmihaaGreat
