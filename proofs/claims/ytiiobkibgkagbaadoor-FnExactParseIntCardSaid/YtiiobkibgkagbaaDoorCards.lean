/-
  DERIVED. GIVEN WITH THE SEED: THE CARDS: each row of YtiiobkibgkagbaaDoorRows.lean that lists a variable, with what it lists TIED to the program's text (the seventh form; the later family's looks); each row that meets fmt, with fmt's text TOLD by the authors' own Lean function (tested against real Go, not proved from fmt's source: count such statements apart). THE CARD IS WHAT COUNTS. Prove the row's statement (the work); the ties are given (YtiiobkibgkagbaaDoorTie.lean); close each card by the builder's one call (the guide's Derived/Test/ToyasCard.lean, 'card_holds'). Laid BY PROGRAM, IN A SANDBOX (cutbox-door.mjs). By AI agents, Wed Nov 11 2026. No macro, syntax, notation, axiom, sorry.
-/
import Derived.Test.YtiiobkibgkagbaaDoorRows
import GoSem.ClaimSeven
namespace Go.Proofs.YtiiobkibgkagbaaDoor
namespace Rows

/-- THE TIED CARD OF 'laws.FnStrings'. -/
def fnStringsCard : Claim7 := { stood := { row := fnStringsRow, standIns := [], harness := (true, "a3a04c9f698faf9d8e542e73f5073902fc333ae1505a5341d0e2d37f969ea1cb"), looks := true }, kinds := [], alts := [], laidByText := true, laidKinds := [.data, .data, .data, .sentinel, .sentinel], laidTests := true, laidLooks := .later }
def FnStringsCardSaid : Prop := Claim7.holds Tryd.pinned (.plain (OpenSpec.ofChange fnStringsSpec)) fnStringsCard

/-- THE TIED CARD OF 'laws.FnExactParseInt'. -/
def fnExactParseIntCard : Claim7 := { stood := { row := fnExactParseIntRow, standIns := [], harness := (true, "a3a04c9f698faf9d8e542e73f5073902fc333ae1505a5341d0e2d37f969ea1cb"), looks := true }, kinds := [], alts := [], laidByText := true, laidKinds := [.data, .data, .data, .sentinel, .sentinel], laidTests := true, laidLooks := .later }
def FnExactParseIntCardSaid : Prop := Claim7.holds Tryd.pinned (.plain (OpenSpec.ofChange fnExactParseIntSpec)) fnExactParseIntCard

/-- THE TIED CARD OF 'laws.FnExactMostChanges'. -/
def fnExactMostChangesCard : Claim7 := { stood := { row := fnExactMostChangesRow, standIns := [], harness := (true, "a3a04c9f698faf9d8e542e73f5073902fc333ae1505a5341d0e2d37f969ea1cb"), looks := true }, kinds := [], alts := [], laidByText := true, laidKinds := [.data], laidTests := true, laidLooks := .later }
def FnExactMostChangesCardSaid : Prop := Claim7.holds Tryd.pinned (.plain (OpenSpec.ofChange fnExactMostChangesSpec)) fnExactMostChangesCard

/-- THE TIED CARD OF 'laws.FnExactFirstOver'. -/
def fnExactFirstOverCard : Claim7 := { stood := { row := fnExactFirstOverRow, standIns := [], harness := (true, "a3a04c9f698faf9d8e542e73f5073902fc333ae1505a5341d0e2d37f969ea1cb"), looks := true }, kinds := [], alts := [], laidByText := true, laidKinds := [.data], laidTests := true, laidLooks := .later }
def FnExactFirstOverCardSaid : Prop := Claim7.holds Tryd.pinned (.plain (OpenSpec.ofChange fnExactFirstOverSpec)) fnExactFirstOverCard

/-- THE SECOND FORM's CARD OF 'laws.FnStrings'. -/
def fnStringsUptoCard : Claim7 := { stood := { row := fnStringsUptoRow, standIns := [], harness := (true, "a3a04c9f698faf9d8e542e73f5073902fc333ae1505a5341d0e2d37f969ea1cb"), looks := true }, kinds := [], alts := [], laidByText := true, laidKinds := [.data, .data, .data, .sentinel, .sentinel], laidTests := true, laidLooks := .later }
def FnStringsUptoCardSaid : Prop := Claim7.holds Tryd.pinned (.plain (OpenSpec.upto fnStringsSpec)) fnStringsUptoCard

/-- THE SECOND FORM's CARD OF 'laws.FnExactParseInt'. -/
def fnExactParseIntUptoCard : Claim7 := { stood := { row := fnExactParseIntUptoRow, standIns := [], harness := (true, "a3a04c9f698faf9d8e542e73f5073902fc333ae1505a5341d0e2d37f969ea1cb"), looks := true }, kinds := [], alts := [], laidByText := true, laidKinds := [.data, .data, .data, .sentinel, .sentinel], laidTests := true, laidLooks := .later }
def FnExactParseIntUptoCardSaid : Prop := Claim7.holds Tryd.pinned (.plain (OpenSpec.upto fnExactParseIntSpec)) fnExactParseIntUptoCard

/-- THE SECOND FORM's CARD OF 'laws.FnExactMostChanges'. -/
def fnExactMostChangesUptoCard : Claim7 := { stood := { row := fnExactMostChangesUptoRow, standIns := [], harness := (true, "a3a04c9f698faf9d8e542e73f5073902fc333ae1505a5341d0e2d37f969ea1cb"), looks := true }, kinds := [], alts := [], laidByText := true, laidKinds := [.data], laidTests := true, laidLooks := .later }
def FnExactMostChangesUptoCardSaid : Prop := Claim7.holds Tryd.pinned (.plain (OpenSpec.upto fnExactMostChangesSpec)) fnExactMostChangesUptoCard

/-- THE SECOND FORM's CARD OF 'laws.FnExactFirstOver'. -/
def fnExactFirstOverUptoCard : Claim7 := { stood := { row := fnExactFirstOverUptoRow, standIns := [], harness := (true, "a3a04c9f698faf9d8e542e73f5073902fc333ae1505a5341d0e2d37f969ea1cb"), looks := true }, kinds := [], alts := [], laidByText := true, laidKinds := [.data], laidTests := true, laidLooks := .later }
def FnExactFirstOverUptoCardSaid : Prop := Claim7.holds Tryd.pinned (.plain (OpenSpec.upto fnExactFirstOverSpec)) fnExactFirstOverUptoCard
end Rows
end Go.Proofs.YtiiobkibgkagbaaDoor
