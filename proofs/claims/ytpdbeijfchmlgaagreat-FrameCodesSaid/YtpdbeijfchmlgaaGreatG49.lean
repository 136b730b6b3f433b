/-
  FrameCodes: part G49.
  Conditions: named in each theorem.
-/
import Derived.Test.YtpdbeijfchmlgaaGreatZ0
import Derived.Test.YtpdbeijfchmlgaaGreatG30
set_option linter.unusedVariables false
set_option linter.unusedSimpArgs false
set_option maxHeartbeats 16000000
set_option maxRecDepth 100000
namespace Go.Proofs.YtpdbeijfchmlgaaGreat.D
open Go.RowKit
open Vi
def _root_.Go.Proofs.YtpdbeijfchmlgaaGreat.Ms.pl (m:Ms):Mp:=⟨m.kind,m.frm,m.dst,m.term,m.index,m.prev,m.commit,m.mark,m.ok,m.snap,m.es⟩
end Go.Proofs.YtpdbeijfchmlgaaGreat.D
