/-
  DERIVED. GIVEN WITH THE SEED: THE CARDS: each row of YtmencfmjmbbfhaaDoorRows.lean that lists a variable, with what it lists TIED to the program's text (the seventh form; the later family's looks); each row that meets fmt, with fmt's text TOLD by the authors' own Lean function (tested against real Go, not proved from fmt's source: count such statements apart). THE CARD IS WHAT COUNTS. Prove the row's statement (the work); the ties are given (YtmencfmjmbbfhaaDoorTie.lean); close each card by the builder's one call (the guide's Derived/Test/ToyasCard.lean, 'card_holds'). Laid BY PROGRAM, IN A SANDBOX (cutbox-door.mjs). By AI agents, Wed Nov 11 2026. No macro, syntax, notation, axiom, sorry.
-/
import Derived.Test.YtmencfmjmbbfhaaDoorRows
import GoSem.ClaimSeven
namespace Go.Proofs.YtmencfmjmbbfhaaDoor
namespace Rows

/-- THE TIED CARD OF 'pintlelaw14.LevelRises'. -/
def levelRisesCard : Claim7 := { stood := { row := levelRisesRow, standIns := [], harness := (true, "7a86728860120bd4ca57e9130cc8fc54172c0b3ab21deebe96a5019edb478a78"), looks := false }, kinds := [], alts := [], laidByText := true, laidKinds := [.data, .data, .data], laidTests := true, laidLooks := .later }
def LevelRisesCardSaid : Prop := Claim7.holds Tryd.pinned (.plain (OpenSpec.ofChange levelRisesSpec)) levelRisesCard

/-- THE TIED CARD OF 'pintlelaw14.LevelMembers'. -/
def levelMembersCard : Claim7 := { stood := { row := levelMembersRow, standIns := [], harness := (true, "7a86728860120bd4ca57e9130cc8fc54172c0b3ab21deebe96a5019edb478a78"), looks := false }, kinds := [], alts := [], laidByText := true, laidKinds := [.data, .data, .data], laidTests := true, laidLooks := .later }
def LevelMembersCardSaid : Prop := Claim7.holds Tryd.pinned (.plain (OpenSpec.ofChange levelMembersSpec)) levelMembersCard

/-- THE TIED CARD OF 'pintlelaw14.LevelAnswers'. -/
def levelAnswersCard : Claim7 := { stood := { row := levelAnswersRow, standIns := [], harness := (true, "7a86728860120bd4ca57e9130cc8fc54172c0b3ab21deebe96a5019edb478a78"), looks := false }, kinds := [], alts := [], laidByText := true, laidKinds := [.data, .data, .data], laidTests := true, laidLooks := .later }
def LevelAnswersCardSaid : Prop := Claim7.holds Tryd.pinned (.plain (OpenSpec.ofChange levelAnswersSpec)) levelAnswersCard

/-- THE TIED CARD OF 'pintlelaw14.LevelPuts'. -/
def levelPutsCard : Claim7 := { stood := { row := levelPutsRow, standIns := [], harness := (true, "7a86728860120bd4ca57e9130cc8fc54172c0b3ab21deebe96a5019edb478a78"), looks := false }, kinds := [], alts := [], laidByText := true, laidKinds := [.data, .data, .data], laidTests := true, laidLooks := .later }
def LevelPutsCardSaid : Prop := Claim7.holds Tryd.pinned (.plain (OpenSpec.ofChange levelPutsSpec)) levelPutsCard

/-- THE SECOND FORM's CARD OF 'pintlelaw14.LevelRises'. -/
def levelRisesUptoCard : Claim7 := { stood := { row := levelRisesUptoRow, standIns := [], harness := (true, "7a86728860120bd4ca57e9130cc8fc54172c0b3ab21deebe96a5019edb478a78"), looks := false }, kinds := [], alts := [], laidByText := true, laidKinds := [.data, .data, .data], laidTests := true, laidLooks := .later }
def LevelRisesUptoCardSaid : Prop := Claim7.holds Tryd.pinned (.plain (OpenSpec.upto levelRisesSpec)) levelRisesUptoCard

/-- THE SECOND FORM's CARD OF 'pintlelaw14.LevelMembers'. -/
def levelMembersUptoCard : Claim7 := { stood := { row := levelMembersUptoRow, standIns := [], harness := (true, "7a86728860120bd4ca57e9130cc8fc54172c0b3ab21deebe96a5019edb478a78"), looks := false }, kinds := [], alts := [], laidByText := true, laidKinds := [.data, .data, .data], laidTests := true, laidLooks := .later }
def LevelMembersUptoCardSaid : Prop := Claim7.holds Tryd.pinned (.plain (OpenSpec.upto levelMembersSpec)) levelMembersUptoCard

/-- THE SECOND FORM's CARD OF 'pintlelaw14.LevelAnswers'. -/
def levelAnswersUptoCard : Claim7 := { stood := { row := levelAnswersUptoRow, standIns := [], harness := (true, "7a86728860120bd4ca57e9130cc8fc54172c0b3ab21deebe96a5019edb478a78"), looks := false }, kinds := [], alts := [], laidByText := true, laidKinds := [.data, .data, .data], laidTests := true, laidLooks := .later }
def LevelAnswersUptoCardSaid : Prop := Claim7.holds Tryd.pinned (.plain (OpenSpec.upto levelAnswersSpec)) levelAnswersUptoCard

/-- THE SECOND FORM's CARD OF 'pintlelaw14.LevelPuts'. -/
def levelPutsUptoCard : Claim7 := { stood := { row := levelPutsUptoRow, standIns := [], harness := (true, "7a86728860120bd4ca57e9130cc8fc54172c0b3ab21deebe96a5019edb478a78"), looks := false }, kinds := [], alts := [], laidByText := true, laidKinds := [.data, .data, .data], laidTests := true, laidLooks := .later }
def LevelPutsUptoCardSaid : Prop := Claim7.holds Tryd.pinned (.plain (OpenSpec.upto levelPutsSpec)) levelPutsUptoCard
end Rows
end Go.Proofs.YtmencfmjmbbfhaaDoor
