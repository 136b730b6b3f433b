/-
  No cell of these rows narrows 'for every input' (looked for: loops, veiled, ifaces, maps, wideKeys, modest, calm, conditions, laid).
  DERIVED. THE GIVEN ROWS OF THIS SEAT. 5 by the template 'for every input the law returns true; each argument reads behind the call as it read before'; 0 by the template 'total and deterministic' (their statements: YtiikgfcfceldmaaTotals.lean).
  GIVEN WITH THE SEED: the statements are not yours to turn. If you find one false, say at which input.
  Laid BY PROGRAM, IN A SANDBOX (cutbox-rows.mjs): the forced cells as the released guide's own fill.sh prints them over the translation b8d5d9b931333eb9… (all of the seat's roots in one cut). By AI agents, Wed Nov 11 2026. No macro, syntax, notation, axiom, sorry.
-/
import Derived.Test.YtiikgfcfceldmaaChecked
import GoSem.Claim
import GoSem.ClaimJoined
import GoSem.ClaimMapViews
import Derived.JoinedTies
import Derived.KernelRfl
namespace Go.Proofs.Ytiikgfcfceldmaa
/- THE CELL 'sum', in the pinned program and in every row, IS THE sha256 OF THE DUMP (.gsa) THAT YtiikgfcfceldmaaProg.lean LOADS. Nothing in Lean hashes anything: it is a label: what it is worth is what the hold of that sum in a sandbox is worth. -/
noncomputable def Try.pinned : Pinned := { name := "ytiikgfcfceldmaa", sum := "b8d5d9b931333eb9c8cc8448e17d64ba87cc1c89144ec2ebdf4f14869d71b361", checked := Try.checked }
namespace Rows
def none {H : Type} : Left H := { results := [], args := [] }

/-- 'pintlelaw05.FirstEntries': WHATEVER THE INPUT: true; the input reads as it did. -/
def firstEntriesSpec : ChangeSpec := { name := "firstEntries", fn := fun _ => fun
  | [d1, d2, d3, d4, d5, d6] => { results := [.lit (.bool true)], args := [d1, d2, d3, d4, d5, d6] }
  | _ => none }
def firstEntriesRow : OpenClaim := { program := "ytiikgfcfceldmaa", sum := "b8d5d9b931333eb9c8cc8448e17d64ba87cc1c89144ec2ebdf4f14869d71b361", func := "pintle/pintlelaw05.FirstEntries", spec := "firstEntries", inPlace := ["internal/bytealg.IndexByteString", "internal/abi.NoEscape", "internal/bytealg.MakeNoZero"], unfollowed := true, recurses := true, apart := false }
def FirstEntriesSaid : Prop := firstEntriesRow.holds Try.pinned (OpenSpec.ofChange firstEntriesSpec)

/-- ITS FALSE NEIGHBOUR: 'it returns false'. Refute it at one input. -/
def firstEntriesWrong : ChangeSpec := { name := "firstEntries", fn := fun _ => fun
  | [d1, d2, d3, d4, d5, d6] => { results := [.lit (.bool false)], args := [d1, d2, d3, d4, d5, d6] }
  | _ => none }
def FirstEntriesWrongFalsely : Prop := firstEntriesRow.holds Try.pinned (OpenSpec.ofChange firstEntriesWrong)

/-- 'pintlelaw05.FirstMsgs': WHATEVER THE INPUT: true; the input reads as it did. -/
def firstMsgsSpec : ChangeSpec := { name := "firstMsgs", fn := fun _ => fun
  | [d1, d2, d3, d4, d5] => { results := [.lit (.bool true)], args := [d1, d2, d3, d4, d5] }
  | _ => none }
def firstMsgsRow : OpenClaim := { program := "ytiikgfcfceldmaa", sum := "b8d5d9b931333eb9c8cc8448e17d64ba87cc1c89144ec2ebdf4f14869d71b361", func := "pintle/pintlelaw05.FirstMsgs", spec := "firstMsgs", inPlace := ["internal/bytealg.IndexByteString", "internal/abi.NoEscape", "internal/bytealg.MakeNoZero"], unfollowed := true, recurses := true, apart := false }
def FirstMsgsSaid : Prop := firstMsgsRow.holds Try.pinned (OpenSpec.ofChange firstMsgsSpec)

/-- ITS FALSE NEIGHBOUR: 'it returns false'. Refute it at one input. -/
def firstMsgsWrong : ChangeSpec := { name := "firstMsgs", fn := fun _ => fun
  | [d1, d2, d3, d4, d5] => { results := [.lit (.bool false)], args := [d1, d2, d3, d4, d5] }
  | _ => none }
def FirstMsgsWrongFalsely : Prop := firstMsgsRow.holds Try.pinned (OpenSpec.ofChange firstMsgsWrong)

/-- 'pintlelaw05.FirstBack': WHATEVER THE INPUT: true; the input reads as it did. -/
def firstBackSpec : ChangeSpec := { name := "firstBack", fn := fun _ => fun
  | [d1, d2, d3] => { results := [.lit (.bool true)], args := [d1, d2, d3] }
  | _ => none }
def firstBackRow : OpenClaim := { program := "ytiikgfcfceldmaa", sum := "b8d5d9b931333eb9c8cc8448e17d64ba87cc1c89144ec2ebdf4f14869d71b361", func := "pintle/pintlelaw05.FirstBack", spec := "firstBack", inPlace := ["internal/bytealg.IndexByteString", "internal/abi.NoEscape", "internal/bytealg.MakeNoZero"], unfollowed := true, recurses := true, apart := false }
def FirstBackSaid : Prop := firstBackRow.holds Try.pinned (OpenSpec.ofChange firstBackSpec)

/-- ITS FALSE NEIGHBOUR: 'it returns false'. Refute it at one input. -/
def firstBackWrong : ChangeSpec := { name := "firstBack", fn := fun _ => fun
  | [d1, d2, d3] => { results := [.lit (.bool false)], args := [d1, d2, d3] }
  | _ => none }
def FirstBackWrongFalsely : Prop := firstBackRow.holds Try.pinned (OpenSpec.ofChange firstBackWrong)

/-- 'pintlelaw05.FirstSizes': WHATEVER THE INPUT: true; the input reads as it did. -/
def firstSizesSpec : ChangeSpec := { name := "firstSizes", fn := fun _ => fun
  | [d1, d2, d3] => { results := [.lit (.bool true)], args := [d1, d2, d3] }
  | _ => none }
def firstSizesRow : OpenClaim := { program := "ytiikgfcfceldmaa", sum := "b8d5d9b931333eb9c8cc8448e17d64ba87cc1c89144ec2ebdf4f14869d71b361", func := "pintle/pintlelaw05.FirstSizes", spec := "firstSizes", inPlace := ["internal/bytealg.IndexByteString", "internal/abi.NoEscape", "internal/bytealg.MakeNoZero"], unfollowed := true, recurses := true, apart := false }
def FirstSizesSaid : Prop := firstSizesRow.holds Try.pinned (OpenSpec.ofChange firstSizesSpec)

/-- ITS FALSE NEIGHBOUR: 'it returns false'. Refute it at one input. -/
def firstSizesWrong : ChangeSpec := { name := "firstSizes", fn := fun _ => fun
  | [d1, d2, d3] => { results := [.lit (.bool false)], args := [d1, d2, d3] }
  | _ => none }
def FirstSizesWrongFalsely : Prop := firstSizesRow.holds Try.pinned (OpenSpec.ofChange firstSizesWrong)

/-- 'pintlelaw05.FirstPads': WHATEVER THE INPUT: true; the input reads as it did. -/
def firstPadsSpec : ChangeSpec := { name := "firstPads", fn := fun _ => fun
  | [d1, d2, d3] => { results := [.lit (.bool true)], args := [d1, d2, d3] }
  | _ => none }
def firstPadsRow : OpenClaim := { program := "ytiikgfcfceldmaa", sum := "b8d5d9b931333eb9c8cc8448e17d64ba87cc1c89144ec2ebdf4f14869d71b361", func := "pintle/pintlelaw05.FirstPads", spec := "firstPads", inPlace := ["internal/bytealg.IndexByteString", "internal/abi.NoEscape", "internal/bytealg.MakeNoZero"], unfollowed := true, recurses := true, apart := false }
def FirstPadsSaid : Prop := firstPadsRow.holds Try.pinned (OpenSpec.ofChange firstPadsSpec)

/-- ITS FALSE NEIGHBOUR: 'it returns false'. Refute it at one input. -/
def firstPadsWrong : ChangeSpec := { name := "firstPads", fn := fun _ => fun
  | [d1, d2, d3] => { results := [.lit (.bool false)], args := [d1, d2, d3] }
  | _ => none }
def FirstPadsWrongFalsely : Prop := firstPadsRow.holds Try.pinned (OpenSpec.ofChange firstPadsWrong)

/- THE SECOND FORM. 'bulk': how many values and letters a reading holds, each counted each time it is reached (what is shared counts as often as it is met; a slice's spare places count too). A statement '..UptoSaid' is the law's where the arguments, and the package variables that the reading takes, are together of bulk at most 1048576: NARROWER than '..Said'. Prove '..Said' where nothing that the law and all that it calls make is longer than what came in: it says more and counts as full. Else prove '..UptoSaid'. A law counts once. -/
mutual
def uptoBulk {H : Type} : DataW H → Nat
  | .lit (.string bytes) => bytes.length + 1
  | .lit _ => 1
  | .nil => 1
  | .ptr d => uptoBulk d + 1
  | .slice elems spare => uptoBulkAll elems + uptoBulkAll spare + 1
  | .agg parts => uptoBulkAll parts + 1
  | .iface _ d => uptoBulk d + 1
  | .map entries => uptoBulkEntries entries + 1
  | .held _ => 1
def uptoBulkAll {H : Type} : List (DataW H) → Nat
  | [] => 0
  | d :: r => uptoBulk d + uptoBulkAll r
def uptoBulkEntries {H : Type} : List (Lit × DataW H) → Nat
  | [] => 0
  | x :: r => uptoBulkEntry x + uptoBulkEntries r
def uptoBulkEntry {H : Type} : Lit × DataW H → Nat
  | (.string bytes, d) => bytes.length + uptoBulk d + 1
  | (_, d) => uptoBulk d + 1
 end
def uptoSmall : (H : Type) → List (DataW H) → Bool := fun _ ds => decide (uptoBulkAll ds ≤ 1048576)
def OpenSpec.upto (s : _root_.Go.ChangeSpec) : _root_.Go.OpenSpec := { _root_.Go.OpenSpec.ofChange s with cond := some uptoSmall }

/-- 'pintlelaw05.FirstEntries', WHERE WHAT IT READS IS OF BULK AT MOST 1048576: true; the input reads as it did. -/
def firstEntriesUptoRow : OpenClaim := { program := "ytiikgfcfceldmaa", sum := "b8d5d9b931333eb9c8cc8448e17d64ba87cc1c89144ec2ebdf4f14869d71b361", func := "pintle/pintlelaw05.FirstEntries", spec := "firstEntries", inPlace := ["internal/bytealg.IndexByteString", "internal/abi.NoEscape", "internal/bytealg.MakeNoZero"], unfollowed := true, recurses := true, apart := false, narrowed := true }
def FirstEntriesUptoSaid : Prop := firstEntriesUptoRow.holds Try.pinned (OpenSpec.upto firstEntriesSpec)

/-- 'pintlelaw05.FirstMsgs', WHERE WHAT IT READS IS OF BULK AT MOST 1048576: true; the input reads as it did. -/
def firstMsgsUptoRow : OpenClaim := { program := "ytiikgfcfceldmaa", sum := "b8d5d9b931333eb9c8cc8448e17d64ba87cc1c89144ec2ebdf4f14869d71b361", func := "pintle/pintlelaw05.FirstMsgs", spec := "firstMsgs", inPlace := ["internal/bytealg.IndexByteString", "internal/abi.NoEscape", "internal/bytealg.MakeNoZero"], unfollowed := true, recurses := true, apart := false, narrowed := true }
def FirstMsgsUptoSaid : Prop := firstMsgsUptoRow.holds Try.pinned (OpenSpec.upto firstMsgsSpec)

/-- 'pintlelaw05.FirstBack', WHERE WHAT IT READS IS OF BULK AT MOST 1048576: true; the input reads as it did. -/
def firstBackUptoRow : OpenClaim := { program := "ytiikgfcfceldmaa", sum := "b8d5d9b931333eb9c8cc8448e17d64ba87cc1c89144ec2ebdf4f14869d71b361", func := "pintle/pintlelaw05.FirstBack", spec := "firstBack", inPlace := ["internal/bytealg.IndexByteString", "internal/abi.NoEscape", "internal/bytealg.MakeNoZero"], unfollowed := true, recurses := true, apart := false, narrowed := true }
def FirstBackUptoSaid : Prop := firstBackUptoRow.holds Try.pinned (OpenSpec.upto firstBackSpec)

/-- 'pintlelaw05.FirstSizes', WHERE WHAT IT READS IS OF BULK AT MOST 1048576: true; the input reads as it did. -/
def firstSizesUptoRow : OpenClaim := { program := "ytiikgfcfceldmaa", sum := "b8d5d9b931333eb9c8cc8448e17d64ba87cc1c89144ec2ebdf4f14869d71b361", func := "pintle/pintlelaw05.FirstSizes", spec := "firstSizes", inPlace := ["internal/bytealg.IndexByteString", "internal/abi.NoEscape", "internal/bytealg.MakeNoZero"], unfollowed := true, recurses := true, apart := false, narrowed := true }
def FirstSizesUptoSaid : Prop := firstSizesUptoRow.holds Try.pinned (OpenSpec.upto firstSizesSpec)

/-- 'pintlelaw05.FirstPads', WHERE WHAT IT READS IS OF BULK AT MOST 1048576: true; the input reads as it did. -/
def firstPadsUptoRow : OpenClaim := { program := "ytiikgfcfceldmaa", sum := "b8d5d9b931333eb9c8cc8448e17d64ba87cc1c89144ec2ebdf4f14869d71b361", func := "pintle/pintlelaw05.FirstPads", spec := "firstPads", inPlace := ["internal/bytealg.IndexByteString", "internal/abi.NoEscape", "internal/bytealg.MakeNoZero"], unfollowed := true, recurses := true, apart := false, narrowed := true }
def FirstPadsUptoSaid : Prop := firstPadsUptoRow.holds Try.pinned (OpenSpec.upto firstPadsSpec)

end Rows
end Go.Proofs.Ytiikgfcfceldmaa
