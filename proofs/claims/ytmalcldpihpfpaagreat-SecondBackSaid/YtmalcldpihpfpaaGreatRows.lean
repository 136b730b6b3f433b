/-
  No cell of these rows narrows 'for every input' (looked for: loops, veiled, ifaces, maps, wideKeys, modest, calm, conditions, laid).
  DERIVED. THE GIVEN ROWS OF THIS SEAT. 6 by the template 'for every input the law returns true; each argument reads behind the call as it read before'; 0 by the template 'total and deterministic' (their statements: YtmalcldpihpfpaaGreatTotals.lean).
  GIVEN WITH THE SEED: the statements are not yours to turn. If you find one false, say at which input.
  Laid BY PROGRAM, IN A SANDBOX (cutbox-rows.mjs): the forced cells as the released guide's own fill.sh prints them over the translation 629d19e96a8ed2c0… (all of the seat's roots in one cut). By AI agents, Wed Nov 11 2026. No macro, syntax, notation, axiom, sorry.
-/
import Derived.Test.YtmalcldpihpfpaaGreatChecked
import GoSem.Claim
import GoSem.ClaimJoined
import GoSem.ClaimMapViews
import Derived.JoinedTies
import Derived.KernelRfl
namespace Go.Proofs.YtmalcldpihpfpaaGreat
/- THE CELL 'sum', in the pinned program and in every row, IS THE sha256 OF THE DUMP (.gsa) THAT YtmalcldpihpfpaaGreatProg.lean LOADS. Nothing in Lean hashes anything: it is a label: what it is worth is what the hold of that sum in a sandbox is worth. -/
noncomputable def Tryz.pinned : Pinned := { name := "ytmalcldpihpfpaagreat", sum := "629d19e96a8ed2c053842079c6a1a6947c2e33c485d48886060a759cefea8777", checked := Tryz.checked }
namespace Rows
def none {H : Type} : Left H := { results := [], args := [] }

/-- 'pintlelaw06.SecondEntries': WHATEVER THE INPUT: true; the input reads as it did. -/
def secondEntriesSpec : ChangeSpec := { name := "secondEntries", fn := fun _ => fun
  | [d1, d2, d3, d4, d5, d6] => { results := [.lit (.bool true)], args := [d1, d2, d3, d4, d5, d6] }
  | _ => none }
def secondEntriesRow : OpenClaim := { program := "ytmalcldpihpfpaagreat", sum := "629d19e96a8ed2c053842079c6a1a6947c2e33c485d48886060a759cefea8777", func := "pintle/pintlelaw06.SecondEntries", spec := "secondEntries", inPlace := ["internal/bytealg.IndexByteString", "internal/abi.NoEscape"], unfollowed := true, recurses := true, apart := false }
def SecondEntriesSaid : Prop := secondEntriesRow.holds Tryz.pinned (OpenSpec.ofChange secondEntriesSpec)

/-- ITS FALSE NEIGHBOUR: 'it returns false'. Refute it at one input. -/
def secondEntriesWrong : ChangeSpec := { name := "secondEntries", fn := fun _ => fun
  | [d1, d2, d3, d4, d5, d6] => { results := [.lit (.bool false)], args := [d1, d2, d3, d4, d5, d6] }
  | _ => none }
def SecondEntriesWrongFalsely : Prop := secondEntriesRow.holds Tryz.pinned (OpenSpec.ofChange secondEntriesWrong)

/-- 'pintlelaw06.SecondMsgs': WHATEVER THE INPUT: true; the input reads as it did. -/
def secondMsgsSpec : ChangeSpec := { name := "secondMsgs", fn := fun _ => fun
  | [d1, d2, d3, d4, d5] => { results := [.lit (.bool true)], args := [d1, d2, d3, d4, d5] }
  | _ => none }
def secondMsgsRow : OpenClaim := { program := "ytmalcldpihpfpaagreat", sum := "629d19e96a8ed2c053842079c6a1a6947c2e33c485d48886060a759cefea8777", func := "pintle/pintlelaw06.SecondMsgs", spec := "secondMsgs", inPlace := ["internal/bytealg.IndexByteString", "internal/abi.NoEscape"], unfollowed := true, recurses := true, apart := false }
def SecondMsgsSaid : Prop := secondMsgsRow.holds Tryz.pinned (OpenSpec.ofChange secondMsgsSpec)

/-- ITS FALSE NEIGHBOUR: 'it returns false'. Refute it at one input. -/
def secondMsgsWrong : ChangeSpec := { name := "secondMsgs", fn := fun _ => fun
  | [d1, d2, d3, d4, d5] => { results := [.lit (.bool false)], args := [d1, d2, d3, d4, d5] }
  | _ => none }
def SecondMsgsWrongFalsely : Prop := secondMsgsRow.holds Tryz.pinned (OpenSpec.ofChange secondMsgsWrong)

/-- 'pintlelaw06.SecondBack': WHATEVER THE INPUT: true; the input reads as it did. -/
def secondBackSpec : ChangeSpec := { name := "secondBack", fn := fun _ => fun
  | [d1, d2, d3] => { results := [.lit (.bool true)], args := [d1, d2, d3] }
  | _ => none }
def secondBackRow : OpenClaim := { program := "ytmalcldpihpfpaagreat", sum := "629d19e96a8ed2c053842079c6a1a6947c2e33c485d48886060a759cefea8777", func := "pintle/pintlelaw06.SecondBack", spec := "secondBack", inPlace := ["internal/bytealg.IndexByteString", "internal/abi.NoEscape"], unfollowed := true, recurses := true, apart := false }
def SecondBackSaid : Prop := secondBackRow.holds Tryz.pinned (OpenSpec.ofChange secondBackSpec)

/-- ITS FALSE NEIGHBOUR: 'it returns false'. Refute it at one input. -/
def secondBackWrong : ChangeSpec := { name := "secondBack", fn := fun _ => fun
  | [d1, d2, d3] => { results := [.lit (.bool false)], args := [d1, d2, d3] }
  | _ => none }
def SecondBackWrongFalsely : Prop := secondBackRow.holds Tryz.pinned (OpenSpec.ofChange secondBackWrong)

/-- 'pintlelaw06.SecondOnce': WHATEVER THE INPUT: true; the input reads as it did. -/
def secondOnceSpec : ChangeSpec := { name := "secondOnce", fn := fun _ => fun
  | [d1, d2] => { results := [.lit (.bool true)], args := [d1, d2] }
  | _ => none }
def secondOnceRow : OpenClaim := { program := "ytmalcldpihpfpaagreat", sum := "629d19e96a8ed2c053842079c6a1a6947c2e33c485d48886060a759cefea8777", func := "pintle/pintlelaw06.SecondOnce", spec := "secondOnce", inPlace := ["internal/bytealg.IndexByteString", "internal/abi.NoEscape"], unfollowed := true, recurses := true, apart := false }
def SecondOnceSaid : Prop := secondOnceRow.holds Tryz.pinned (OpenSpec.ofChange secondOnceSpec)

/-- ITS FALSE NEIGHBOUR: 'it returns false'. Refute it at one input. -/
def secondOnceWrong : ChangeSpec := { name := "secondOnce", fn := fun _ => fun
  | [d1, d2] => { results := [.lit (.bool false)], args := [d1, d2] }
  | _ => none }
def SecondOnceWrongFalsely : Prop := secondOnceRow.holds Tryz.pinned (OpenSpec.ofChange secondOnceWrong)

/-- 'pintlelaw06.SecondShort': WHATEVER THE INPUT: true; the input reads as it did. -/
def secondShortSpec : ChangeSpec := { name := "secondShort", fn := fun _ => fun
  | [d1, d2] => { results := [.lit (.bool true)], args := [d1, d2] }
  | _ => none }
def secondShortRow : OpenClaim := { program := "ytmalcldpihpfpaagreat", sum := "629d19e96a8ed2c053842079c6a1a6947c2e33c485d48886060a759cefea8777", func := "pintle/pintlelaw06.SecondShort", spec := "secondShort", inPlace := ["internal/bytealg.IndexByteString", "internal/abi.NoEscape"], unfollowed := true, recurses := true, apart := false }
def SecondShortSaid : Prop := secondShortRow.holds Tryz.pinned (OpenSpec.ofChange secondShortSpec)

/-- ITS FALSE NEIGHBOUR: 'it returns false'. Refute it at one input. -/
def secondShortWrong : ChangeSpec := { name := "secondShort", fn := fun _ => fun
  | [d1, d2] => { results := [.lit (.bool false)], args := [d1, d2] }
  | _ => none }
def SecondShortWrongFalsely : Prop := secondShortRow.holds Tryz.pinned (OpenSpec.ofChange secondShortWrong)

/-- 'pintlelaw06.SecondTags': WHATEVER THE INPUT: true; the input reads as it did. -/
def secondTagsSpec : ChangeSpec := { name := "secondTags", fn := fun _ => fun
  | [d1, d2, d3] => { results := [.lit (.bool true)], args := [d1, d2, d3] }
  | _ => none }
def secondTagsRow : OpenClaim := { program := "ytmalcldpihpfpaagreat", sum := "629d19e96a8ed2c053842079c6a1a6947c2e33c485d48886060a759cefea8777", func := "pintle/pintlelaw06.SecondTags", spec := "secondTags", inPlace := ["internal/bytealg.IndexByteString", "internal/abi.NoEscape"], unfollowed := true, recurses := true, apart := false }
def SecondTagsSaid : Prop := secondTagsRow.holds Tryz.pinned (OpenSpec.ofChange secondTagsSpec)

/-- ITS FALSE NEIGHBOUR: 'it returns false'. Refute it at one input. -/
def secondTagsWrong : ChangeSpec := { name := "secondTags", fn := fun _ => fun
  | [d1, d2, d3] => { results := [.lit (.bool false)], args := [d1, d2, d3] }
  | _ => none }
def SecondTagsWrongFalsely : Prop := secondTagsRow.holds Tryz.pinned (OpenSpec.ofChange secondTagsWrong)

/- THE SECOND FORM. 'bulk': how many values and letters a reading holds, each counted each time it is reached (what is shared counts as often as it is met; a slice's spare places count too). A statement '..UptoSaid' is the law's where the arguments, and the package variables that the reading takes, are together of bulk at most 1048576: NARROWER than '..Said'. Prove '..Said' where nothing that the law and all that it calls make is longer than what came in: it says more and counts as full. Else prove '..UptoSaid'. A law counts once. -/
mutual
def uptoBulk {H : Type} : DataW H → Nat
  | .lit (.string bytes) => bytes.length + 1
  | .lit _ => 1
  | .nil => 1
  | .ptr d => uptoBulk d + 1
  | .slice elems spare => uptoBulkAll elems + uptoBulkAll spare + 1
  | .agg parts => uptoBulkAll parts + 1
  | .iface _ d => uptoBulk d + 1
  | .map entries => uptoBulkEntries entries + 1
  | .held _ => 1
def uptoBulkAll {H : Type} : List (DataW H) → Nat
  | [] => 0
  | d :: r => uptoBulk d + uptoBulkAll r
def uptoBulkEntries {H : Type} : List (Lit × DataW H) → Nat
  | [] => 0
  | x :: r => uptoBulkEntry x + uptoBulkEntries r
def uptoBulkEntry {H : Type} : Lit × DataW H → Nat
  | (.string bytes, d) => bytes.length + uptoBulk d + 1
  | (_, d) => uptoBulk d + 1
 end
def uptoSmall : (H : Type) → List (DataW H) → Bool := fun _ ds => decide (uptoBulkAll ds ≤ 1048576)
def OpenSpec.upto (s : _root_.Go.ChangeSpec) : _root_.Go.OpenSpec := { _root_.Go.OpenSpec.ofChange s with cond := some uptoSmall }

/-- 'pintlelaw06.SecondEntries', WHERE WHAT IT READS IS OF BULK AT MOST 1048576: true; the input reads as it did. -/
def secondEntriesUptoRow : OpenClaim := { program := "ytmalcldpihpfpaagreat", sum := "629d19e96a8ed2c053842079c6a1a6947c2e33c485d48886060a759cefea8777", func := "pintle/pintlelaw06.SecondEntries", spec := "secondEntries", inPlace := ["internal/bytealg.IndexByteString", "internal/abi.NoEscape"], unfollowed := true, recurses := true, apart := false, narrowed := true }
def SecondEntriesUptoSaid : Prop := secondEntriesUptoRow.holds Tryz.pinned (OpenSpec.upto secondEntriesSpec)

/-- 'pintlelaw06.SecondMsgs', WHERE WHAT IT READS IS OF BULK AT MOST 1048576: true; the input reads as it did. -/
def secondMsgsUptoRow : OpenClaim := { program := "ytmalcldpihpfpaagreat", sum := "629d19e96a8ed2c053842079c6a1a6947c2e33c485d48886060a759cefea8777", func := "pintle/pintlelaw06.SecondMsgs", spec := "secondMsgs", inPlace := ["internal/bytealg.IndexByteString", "internal/abi.NoEscape"], unfollowed := true, recurses := true, apart := false, narrowed := true }
def SecondMsgsUptoSaid : Prop := secondMsgsUptoRow.holds Tryz.pinned (OpenSpec.upto secondMsgsSpec)

/-- 'pintlelaw06.SecondBack', WHERE WHAT IT READS IS OF BULK AT MOST 1048576: true; the input reads as it did. -/
def secondBackUptoRow : OpenClaim := { program := "ytmalcldpihpfpaagreat", sum := "629d19e96a8ed2c053842079c6a1a6947c2e33c485d48886060a759cefea8777", func := "pintle/pintlelaw06.SecondBack", spec := "secondBack", inPlace := ["internal/bytealg.IndexByteString", "internal/abi.NoEscape"], unfollowed := true, recurses := true, apart := false, narrowed := true }
def SecondBackUptoSaid : Prop := secondBackUptoRow.holds Tryz.pinned (OpenSpec.upto secondBackSpec)

/-- 'pintlelaw06.SecondOnce', WHERE WHAT IT READS IS OF BULK AT MOST 1048576: true; the input reads as it did. -/
def secondOnceUptoRow : OpenClaim := { program := "ytmalcldpihpfpaagreat", sum := "629d19e96a8ed2c053842079c6a1a6947c2e33c485d48886060a759cefea8777", func := "pintle/pintlelaw06.SecondOnce", spec := "secondOnce", inPlace := ["internal/bytealg.IndexByteString", "internal/abi.NoEscape"], unfollowed := true, recurses := true, apart := false, narrowed := true }
def SecondOnceUptoSaid : Prop := secondOnceUptoRow.holds Tryz.pinned (OpenSpec.upto secondOnceSpec)

/-- 'pintlelaw06.SecondShort', WHERE WHAT IT READS IS OF BULK AT MOST 1048576: true; the input reads as it did. -/
def secondShortUptoRow : OpenClaim := { program := "ytmalcldpihpfpaagreat", sum := "629d19e96a8ed2c053842079c6a1a6947c2e33c485d48886060a759cefea8777", func := "pintle/pintlelaw06.SecondShort", spec := "secondShort", inPlace := ["internal/bytealg.IndexByteString", "internal/abi.NoEscape"], unfollowed := true, recurses := true, apart := false, narrowed := true }
def SecondShortUptoSaid : Prop := secondShortUptoRow.holds Tryz.pinned (OpenSpec.upto secondShortSpec)

/-- 'pintlelaw06.SecondTags', WHERE WHAT IT READS IS OF BULK AT MOST 1048576: true; the input reads as it did. -/
def secondTagsUptoRow : OpenClaim := { program := "ytmalcldpihpfpaagreat", sum := "629d19e96a8ed2c053842079c6a1a6947c2e33c485d48886060a759cefea8777", func := "pintle/pintlelaw06.SecondTags", spec := "secondTags", inPlace := ["internal/bytealg.IndexByteString", "internal/abi.NoEscape"], unfollowed := true, recurses := true, apart := false, narrowed := true }
def SecondTagsUptoSaid : Prop := secondTagsUptoRow.holds Tryz.pinned (OpenSpec.upto secondTagsSpec)

end Rows
end Go.Proofs.YtmalcldpihpfpaaGreat
