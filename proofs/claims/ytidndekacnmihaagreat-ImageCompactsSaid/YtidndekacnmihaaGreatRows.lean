/-
  No cell of these rows narrows 'for every input' (looked for: loops, veiled, ifaces, maps, wideKeys, modest, calm, conditions, laid).
  DERIVED. THE GIVEN ROWS OF THIS SEAT. 7 by the template 'for every input the law returns true; each argument reads behind the call as it read before'; 0 by the template 'total and deterministic' (their statements: YtidndekacnmihaaGreatTotals.lean).
  GIVEN WITH THE SEED: the statements are not yours to turn. If you find one false, say at which input.
  Laid BY PROGRAM, IN A SANDBOX (cutbox-rows.mjs): the forced cells as the released guide's own fill.sh prints them over the translation a7578180fcd3da46… (all of the seat's roots in one cut). By AI agents, Wed Nov 11 2026. No macro, syntax, notation, axiom, sorry.
-/
import Derived.Test.YtidndekacnmihaaGreatChecked
import GoSem.Claim
import GoSem.ClaimJoined
import GoSem.ClaimMapViews
import Derived.JoinedTies
import Derived.KernelRfl
namespace Go.Proofs.YtidndekacnmihaaGreat
/- THE CELL 'sum', in the pinned program and in every row, IS THE sha256 OF THE DUMP (.gsa) THAT YtidndekacnmihaaGreatProg.lean LOADS. Nothing in Lean hashes anything: it is a label: what it is worth is what the hold of that sum in a sandbox is worth. -/
noncomputable def Tryz.pinned : Pinned := { name := "ytidndekacnmihaagreat", sum := "a7578180fcd3da46c14d9420292b99f0ff2e77583e58f1202e84ee945a30918e", checked := Tryz.checked }
namespace Rows
def none {H : Type} : Left H := { results := [], args := [] }

/-- 'pintlelaw12.ImagePlays': WHATEVER THE INPUT: true; the input reads as it did. -/
def imagePlaysSpec : ChangeSpec := { name := "imagePlays", fn := fun _ => fun
  | [d1, d2, d3, d4, d5] => { results := [.lit (.bool true)], args := [d1, d2, d3, d4, d5] }
  | _ => none }
def imagePlaysRow : OpenClaim := { program := "ytidndekacnmihaagreat", sum := "a7578180fcd3da46c14d9420292b99f0ff2e77583e58f1202e84ee945a30918e", func := "pintle/pintlelaw12.ImagePlays", spec := "imagePlays", inPlace := ["internal/abi.NoEscape", "internal/bytealg.MakeNoZero", "internal/bytealg.IndexByteString"], unfollowed := true, recurses := true, apart := false }
def ImagePlaysSaid : Prop := imagePlaysRow.holds Tryz.pinned (OpenSpec.ofChange imagePlaysSpec)

/-- ITS FALSE NEIGHBOUR: 'it returns false'. Refute it at one input. -/
def imagePlaysWrong : ChangeSpec := { name := "imagePlays", fn := fun _ => fun
  | [d1, d2, d3, d4, d5] => { results := [.lit (.bool false)], args := [d1, d2, d3, d4, d5] }
  | _ => none }
def ImagePlaysWrongFalsely : Prop := imagePlaysRow.holds Tryz.pinned (OpenSpec.ofChange imagePlaysWrong)

/-- 'pintlelaw12.ImageBack': WHATEVER THE INPUT: true; the input reads as it did. -/
def imageBackSpec : ChangeSpec := { name := "imageBack", fn := fun _ => fun
  | [d1, d2, d3, d4, d5, d6] => { results := [.lit (.bool true)], args := [d1, d2, d3, d4, d5, d6] }
  | _ => none }
def imageBackRow : OpenClaim := { program := "ytidndekacnmihaagreat", sum := "a7578180fcd3da46c14d9420292b99f0ff2e77583e58f1202e84ee945a30918e", func := "pintle/pintlelaw12.ImageBack", spec := "imageBack", inPlace := ["internal/abi.NoEscape", "internal/bytealg.MakeNoZero", "internal/bytealg.IndexByteString"], unfollowed := true, recurses := true, apart := false }
def ImageBackSaid : Prop := imageBackRow.holds Tryz.pinned (OpenSpec.ofChange imageBackSpec)

/-- ITS FALSE NEIGHBOUR: 'it returns false'. Refute it at one input. -/
def imageBackWrong : ChangeSpec := { name := "imageBack", fn := fun _ => fun
  | [d1, d2, d3, d4, d5, d6] => { results := [.lit (.bool false)], args := [d1, d2, d3, d4, d5, d6] }
  | _ => none }
def ImageBackWrongFalsely : Prop := imageBackRow.holds Tryz.pinned (OpenSpec.ofChange imageBackWrong)

/-- 'pintlelaw12.ImageCrashes': WHATEVER THE INPUT: true; the input reads as it did. -/
def imageCrashesSpec : ChangeSpec := { name := "imageCrashes", fn := fun _ => fun
  | [d1, d2, d3, d4, d5, d6, d7] => { results := [.lit (.bool true)], args := [d1, d2, d3, d4, d5, d6, d7] }
  | _ => none }
def imageCrashesRow : OpenClaim := { program := "ytidndekacnmihaagreat", sum := "a7578180fcd3da46c14d9420292b99f0ff2e77583e58f1202e84ee945a30918e", func := "pintle/pintlelaw12.ImageCrashes", spec := "imageCrashes", inPlace := ["internal/abi.NoEscape", "internal/bytealg.MakeNoZero", "internal/bytealg.IndexByteString"], unfollowed := true, recurses := true, apart := false }
def ImageCrashesSaid : Prop := imageCrashesRow.holds Tryz.pinned (OpenSpec.ofChange imageCrashesSpec)

/-- ITS FALSE NEIGHBOUR: 'it returns false'. Refute it at one input. -/
def imageCrashesWrong : ChangeSpec := { name := "imageCrashes", fn := fun _ => fun
  | [d1, d2, d3, d4, d5, d6, d7] => { results := [.lit (.bool false)], args := [d1, d2, d3, d4, d5, d6, d7] }
  | _ => none }
def ImageCrashesWrongFalsely : Prop := imageCrashesRow.holds Tryz.pinned (OpenSpec.ofChange imageCrashesWrong)

/-- 'pintlelaw12.ImageCompacts': WHATEVER THE INPUT: true; the input reads as it did. -/
def imageCompactsSpec : ChangeSpec := { name := "imageCompacts", fn := fun _ => fun
  | [d1, d2, d3, d4] => { results := [.lit (.bool true)], args := [d1, d2, d3, d4] }
  | _ => none }
def imageCompactsRow : OpenClaim := { program := "ytidndekacnmihaagreat", sum := "a7578180fcd3da46c14d9420292b99f0ff2e77583e58f1202e84ee945a30918e", func := "pintle/pintlelaw12.ImageCompacts", spec := "imageCompacts", inPlace := ["internal/abi.NoEscape", "internal/bytealg.MakeNoZero", "internal/bytealg.IndexByteString"], unfollowed := true, recurses := true, apart := false }
def ImageCompactsSaid : Prop := imageCompactsRow.holds Tryz.pinned (OpenSpec.ofChange imageCompactsSpec)

/-- ITS FALSE NEIGHBOUR: 'it returns false'. Refute it at one input. -/
def imageCompactsWrong : ChangeSpec := { name := "imageCompacts", fn := fun _ => fun
  | [d1, d2, d3, d4] => { results := [.lit (.bool false)], args := [d1, d2, d3, d4] }
  | _ => none }
def ImageCompactsWrongFalsely : Prop := imageCompactsRow.holds Tryz.pinned (OpenSpec.ofChange imageCompactsWrong)

/-- 'pintlelaw12.ImageFull': WHATEVER THE INPUT: true; the input reads as it did. -/
def imageFullSpec : ChangeSpec := { name := "imageFull", fn := fun _ => fun
  | [d1, d2] => { results := [.lit (.bool true)], args := [d1, d2] }
  | _ => none }
def imageFullRow : OpenClaim := { program := "ytidndekacnmihaagreat", sum := "a7578180fcd3da46c14d9420292b99f0ff2e77583e58f1202e84ee945a30918e", func := "pintle/pintlelaw12.ImageFull", spec := "imageFull", inPlace := ["internal/abi.NoEscape", "internal/bytealg.MakeNoZero", "internal/bytealg.IndexByteString"], unfollowed := true, recurses := true, apart := false }
def ImageFullSaid : Prop := imageFullRow.holds Tryz.pinned (OpenSpec.ofChange imageFullSpec)

/-- ITS FALSE NEIGHBOUR: 'it returns false'. Refute it at one input. -/
def imageFullWrong : ChangeSpec := { name := "imageFull", fn := fun _ => fun
  | [d1, d2] => { results := [.lit (.bool false)], args := [d1, d2] }
  | _ => none }
def ImageFullWrongFalsely : Prop := imageFullRow.holds Tryz.pinned (OpenSpec.ofChange imageFullWrong)

/-- 'pintlelaw12.ImageTwice': WHATEVER THE INPUT: true; the input reads as it did. -/
def imageTwiceSpec : ChangeSpec := { name := "imageTwice", fn := fun _ => fun
  | [d1, d2, d3, d4] => { results := [.lit (.bool true)], args := [d1, d2, d3, d4] }
  | _ => none }
def imageTwiceRow : OpenClaim := { program := "ytidndekacnmihaagreat", sum := "a7578180fcd3da46c14d9420292b99f0ff2e77583e58f1202e84ee945a30918e", func := "pintle/pintlelaw12.ImageTwice", spec := "imageTwice", inPlace := ["internal/abi.NoEscape", "internal/bytealg.MakeNoZero", "internal/bytealg.IndexByteString"], unfollowed := true, recurses := true, apart := false }
def ImageTwiceSaid : Prop := imageTwiceRow.holds Tryz.pinned (OpenSpec.ofChange imageTwiceSpec)

/-- ITS FALSE NEIGHBOUR: 'it returns false'. Refute it at one input. -/
def imageTwiceWrong : ChangeSpec := { name := "imageTwice", fn := fun _ => fun
  | [d1, d2, d3, d4] => { results := [.lit (.bool false)], args := [d1, d2, d3, d4] }
  | _ => none }
def ImageTwiceWrongFalsely : Prop := imageTwiceRow.holds Tryz.pinned (OpenSpec.ofChange imageTwiceWrong)

/-- 'pintlelaw12.ImageLays': WHATEVER THE INPUT: true; the input reads as it did. -/
def imageLaysSpec : ChangeSpec := { name := "imageLays", fn := fun _ => fun
  | [d1, d2, d3, d4, d5] => { results := [.lit (.bool true)], args := [d1, d2, d3, d4, d5] }
  | _ => none }
def imageLaysRow : OpenClaim := { program := "ytidndekacnmihaagreat", sum := "a7578180fcd3da46c14d9420292b99f0ff2e77583e58f1202e84ee945a30918e", func := "pintle/pintlelaw12.ImageLays", spec := "imageLays", inPlace := ["internal/abi.NoEscape", "internal/bytealg.MakeNoZero", "internal/bytealg.IndexByteString"], unfollowed := true, recurses := true, apart := false }
def ImageLaysSaid : Prop := imageLaysRow.holds Tryz.pinned (OpenSpec.ofChange imageLaysSpec)

/-- ITS FALSE NEIGHBOUR: 'it returns false'. Refute it at one input. -/
def imageLaysWrong : ChangeSpec := { name := "imageLays", fn := fun _ => fun
  | [d1, d2, d3, d4, d5] => { results := [.lit (.bool false)], args := [d1, d2, d3, d4, d5] }
  | _ => none }
def ImageLaysWrongFalsely : Prop := imageLaysRow.holds Tryz.pinned (OpenSpec.ofChange imageLaysWrong)

/- THE SECOND FORM. 'bulk': how many values and letters a reading holds, each counted each time it is reached (what is shared counts as often as it is met; a slice's spare places count too). A statement '..UptoSaid' is the law's where the arguments, and the package variables that the reading takes, are together of bulk at most 1048576: NARROWER than '..Said'. Prove '..Said' where nothing that the law and all that it calls make is longer than what came in: it says more and counts as full. Else prove '..UptoSaid'. A law counts once. -/
mutual
def uptoBulk {H : Type} : DataW H → Nat
  | .lit (.string bytes) => bytes.length + 1
  | .lit _ => 1
  | .nil => 1
  | .ptr d => uptoBulk d + 1
  | .slice elems spare => uptoBulkAll elems + uptoBulkAll spare + 1
  | .agg parts => uptoBulkAll parts + 1
  | .iface _ d => uptoBulk d + 1
  | .map entries => uptoBulkEntries entries + 1
  | .held _ => 1
def uptoBulkAll {H : Type} : List (DataW H) → Nat
  | [] => 0
  | d :: r => uptoBulk d + uptoBulkAll r
def uptoBulkEntries {H : Type} : List (Lit × DataW H) → Nat
  | [] => 0
  | x :: r => uptoBulkEntry x + uptoBulkEntries r
def uptoBulkEntry {H : Type} : Lit × DataW H → Nat
  | (.string bytes, d) => bytes.length + uptoBulk d + 1
  | (_, d) => uptoBulk d + 1
 end
def uptoSmall : (H : Type) → List (DataW H) → Bool := fun _ ds => decide (uptoBulkAll ds ≤ 1048576)
def OpenSpec.upto (s : _root_.Go.ChangeSpec) : _root_.Go.OpenSpec := { _root_.Go.OpenSpec.ofChange s with cond := some uptoSmall }

/-- 'pintlelaw12.ImagePlays', WHERE WHAT IT READS IS OF BULK AT MOST 1048576: true; the input reads as it did. -/
def imagePlaysUptoRow : OpenClaim := { program := "ytidndekacnmihaagreat", sum := "a7578180fcd3da46c14d9420292b99f0ff2e77583e58f1202e84ee945a30918e", func := "pintle/pintlelaw12.ImagePlays", spec := "imagePlays", inPlace := ["internal/abi.NoEscape", "internal/bytealg.MakeNoZero", "internal/bytealg.IndexByteString"], unfollowed := true, recurses := true, apart := false, narrowed := true }
def ImagePlaysUptoSaid : Prop := imagePlaysUptoRow.holds Tryz.pinned (OpenSpec.upto imagePlaysSpec)

/-- 'pintlelaw12.ImageBack', WHERE WHAT IT READS IS OF BULK AT MOST 1048576: true; the input reads as it did. -/
def imageBackUptoRow : OpenClaim := { program := "ytidndekacnmihaagreat", sum := "a7578180fcd3da46c14d9420292b99f0ff2e77583e58f1202e84ee945a30918e", func := "pintle/pintlelaw12.ImageBack", spec := "imageBack", inPlace := ["internal/abi.NoEscape", "internal/bytealg.MakeNoZero", "internal/bytealg.IndexByteString"], unfollowed := true, recurses := true, apart := false, narrowed := true }
def ImageBackUptoSaid : Prop := imageBackUptoRow.holds Tryz.pinned (OpenSpec.upto imageBackSpec)

/-- 'pintlelaw12.ImageCrashes', WHERE WHAT IT READS IS OF BULK AT MOST 1048576: true; the input reads as it did. -/
def imageCrashesUptoRow : OpenClaim := { program := "ytidndekacnmihaagreat", sum := "a7578180fcd3da46c14d9420292b99f0ff2e77583e58f1202e84ee945a30918e", func := "pintle/pintlelaw12.ImageCrashes", spec := "imageCrashes", inPlace := ["internal/abi.NoEscape", "internal/bytealg.MakeNoZero", "internal/bytealg.IndexByteString"], unfollowed := true, recurses := true, apart := false, narrowed := true }
def ImageCrashesUptoSaid : Prop := imageCrashesUptoRow.holds Tryz.pinned (OpenSpec.upto imageCrashesSpec)

/-- 'pintlelaw12.ImageCompacts', WHERE WHAT IT READS IS OF BULK AT MOST 1048576: true; the input reads as it did. -/
def imageCompactsUptoRow : OpenClaim := { program := "ytidndekacnmihaagreat", sum := "a7578180fcd3da46c14d9420292b99f0ff2e77583e58f1202e84ee945a30918e", func := "pintle/pintlelaw12.ImageCompacts", spec := "imageCompacts", inPlace := ["internal/abi.NoEscape", "internal/bytealg.MakeNoZero", "internal/bytealg.IndexByteString"], unfollowed := true, recurses := true, apart := false, narrowed := true }
def ImageCompactsUptoSaid : Prop := imageCompactsUptoRow.holds Tryz.pinned (OpenSpec.upto imageCompactsSpec)

/-- 'pintlelaw12.ImageFull', WHERE WHAT IT READS IS OF BULK AT MOST 1048576: true; the input reads as it did. -/
def imageFullUptoRow : OpenClaim := { program := "ytidndekacnmihaagreat", sum := "a7578180fcd3da46c14d9420292b99f0ff2e77583e58f1202e84ee945a30918e", func := "pintle/pintlelaw12.ImageFull", spec := "imageFull", inPlace := ["internal/abi.NoEscape", "internal/bytealg.MakeNoZero", "internal/bytealg.IndexByteString"], unfollowed := true, recurses := true, apart := false, narrowed := true }
def ImageFullUptoSaid : Prop := imageFullUptoRow.holds Tryz.pinned (OpenSpec.upto imageFullSpec)

/-- 'pintlelaw12.ImageTwice', WHERE WHAT IT READS IS OF BULK AT MOST 1048576: true; the input reads as it did. -/
def imageTwiceUptoRow : OpenClaim := { program := "ytidndekacnmihaagreat", sum := "a7578180fcd3da46c14d9420292b99f0ff2e77583e58f1202e84ee945a30918e", func := "pintle/pintlelaw12.ImageTwice", spec := "imageTwice", inPlace := ["internal/abi.NoEscape", "internal/bytealg.MakeNoZero", "internal/bytealg.IndexByteString"], unfollowed := true, recurses := true, apart := false, narrowed := true }
def ImageTwiceUptoSaid : Prop := imageTwiceUptoRow.holds Tryz.pinned (OpenSpec.upto imageTwiceSpec)

/-- 'pintlelaw12.ImageLays', WHERE WHAT IT READS IS OF BULK AT MOST 1048576: true; the input reads as it did. -/
def imageLaysUptoRow : OpenClaim := { program := "ytidndekacnmihaagreat", sum := "a7578180fcd3da46c14d9420292b99f0ff2e77583e58f1202e84ee945a30918e", func := "pintle/pintlelaw12.ImageLays", spec := "imageLays", inPlace := ["internal/abi.NoEscape", "internal/bytealg.MakeNoZero", "internal/bytealg.IndexByteString"], unfollowed := true, recurses := true, apart := false, narrowed := true }
def ImageLaysUptoSaid : Prop := imageLaysUptoRow.holds Tryz.pinned (OpenSpec.upto imageLaysSpec)

end Rows
end Go.Proofs.YtidndekacnmihaaGreat
