/-
  DERIVED. GIVEN WITH THE SEED: THE CARDS: each row of YtllpdnknaldbaaaDoorRows.lean that lists a variable, with what it lists TIED to the program's text (the seventh form; the later family's looks); each row that meets fmt, with fmt's text TOLD by the authors' own Lean function (tested against real Go, not proved from fmt's source: count such statements apart). THE CARD IS WHAT COUNTS. Prove the row's statement (the work); the ties are given (YtllpdnknaldbaaaDoorTie.lean); close each card by the builder's one call (the guide's Derived/Test/ToyasCard.lean, 'card_holds'). Laid BY PROGRAM, IN A SANDBOX (cutbox-door.mjs). By AI agents, Wed Nov 11 2026. No macro, syntax, notation, axiom, sorry.
-/
import Derived.Test.YtllpdnknaldbaaaDoorRows
import GoSem.ClaimSeven
namespace Go.Proofs.YtllpdnknaldbaaaDoor
namespace Rows

/-- THE TIED CARD OF 'laws.FnExactCellOf'. -/
def fnExactCellOfCard : Claim7 := { stood := { row := fnExactCellOfRow, standIns := [], harness := (true, "87985ffa6701b846a7cc4a352ee9a374c9c09483fe9deca6c4cd54d841facb01"), looks := false }, kinds := [], alts := [], laidByText := true, laidKinds := [.data], laidTests := true, laidLooks := .later }
def FnExactCellOfCardSaid : Prop := Claim7.holds Tryd.pinned (.plain (OpenSpec.ofChange fnExactCellOfSpec)) fnExactCellOfCard

/-- THE TIED CARD OF 'laws.FnExactDigitOf'. -/
def fnExactDigitOfCard : Claim7 := { stood := { row := fnExactDigitOfRow, standIns := [], harness := (true, "87985ffa6701b846a7cc4a352ee9a374c9c09483fe9deca6c4cd54d841facb01"), looks := false }, kinds := [], alts := [], laidByText := true, laidKinds := [.data], laidTests := true, laidLooks := .later }
def FnExactDigitOfCardSaid : Prop := Claim7.holds Tryd.pinned (.plain (OpenSpec.ofChange fnExactDigitOfSpec)) fnExactDigitOfCard

/-- THE TIED CARD OF 'laws.FnExactNumberOf'. -/
def fnExactNumberOfCard : Claim7 := { stood := { row := fnExactNumberOfRow, standIns := [], harness := (true, "87985ffa6701b846a7cc4a352ee9a374c9c09483fe9deca6c4cd54d841facb01"), looks := false }, kinds := [], alts := [], laidByText := true, laidKinds := [.data], laidTests := true, laidLooks := .later }
def FnExactNumberOfCardSaid : Prop := Claim7.holds Tryd.pinned (.plain (OpenSpec.ofChange fnExactNumberOfSpec)) fnExactNumberOfCard

/-- THE SECOND FORM's CARD OF 'laws.FnExactCellOf'. -/
def fnExactCellOfUptoCard : Claim7 := { stood := { row := fnExactCellOfUptoRow, standIns := [], harness := (true, "87985ffa6701b846a7cc4a352ee9a374c9c09483fe9deca6c4cd54d841facb01"), looks := false }, kinds := [], alts := [], laidByText := true, laidKinds := [.data], laidTests := true, laidLooks := .later }
def FnExactCellOfUptoCardSaid : Prop := Claim7.holds Tryd.pinned (.plain (OpenSpec.upto fnExactCellOfSpec)) fnExactCellOfUptoCard

/-- THE SECOND FORM's CARD OF 'laws.FnExactDigitOf'. -/
def fnExactDigitOfUptoCard : Claim7 := { stood := { row := fnExactDigitOfUptoRow, standIns := [], harness := (true, "87985ffa6701b846a7cc4a352ee9a374c9c09483fe9deca6c4cd54d841facb01"), looks := false }, kinds := [], alts := [], laidByText := true, laidKinds := [.data], laidTests := true, laidLooks := .later }
def FnExactDigitOfUptoCardSaid : Prop := Claim7.holds Tryd.pinned (.plain (OpenSpec.upto fnExactDigitOfSpec)) fnExactDigitOfUptoCard

/-- THE SECOND FORM's CARD OF 'laws.FnExactNumberOf'. -/
def fnExactNumberOfUptoCard : Claim7 := { stood := { row := fnExactNumberOfUptoRow, standIns := [], harness := (true, "87985ffa6701b846a7cc4a352ee9a374c9c09483fe9deca6c4cd54d841facb01"), looks := false }, kinds := [], alts := [], laidByText := true, laidKinds := [.data], laidTests := true, laidLooks := .later }
def FnExactNumberOfUptoCardSaid : Prop := Claim7.holds Tryd.pinned (.plain (OpenSpec.upto fnExactNumberOfSpec)) fnExactNumberOfUptoCard
end Rows
end Go.Proofs.YtllpdnknaldbaaaDoor
