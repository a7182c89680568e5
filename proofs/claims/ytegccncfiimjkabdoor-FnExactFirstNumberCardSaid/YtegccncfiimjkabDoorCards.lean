/-
  DERIVED. GIVEN WITH THE SEED: THE CARDS: each row of YtegccncfiimjkabDoorRows.lean that lists a variable, with what it lists TIED to the program's text (the seventh form; the later family's looks); each row that meets fmt, with fmt's text TOLD by the authors' own Lean function (tested against real Go, not proved from fmt's source: count such statements apart). THE CARD IS WHAT COUNTS. Prove the row's statement (the work); the ties are given (YtegccncfiimjkabDoorTie.lean); close each card by the builder's one call (the guide's Derived/Test/ToyasCard.lean, 'card_holds'). Laid BY PROGRAM, IN A SANDBOX (cutbox-door.mjs). By AI agents, Wed Nov 11 2026. No macro, syntax, notation, axiom, sorry.
-/
import Derived.Test.YtegccncfiimjkabDoorRows
import GoSem.ClaimSeven
namespace Go.Proofs.YtegccncfiimjkabDoor
namespace Rows

/-- THE TIED CARD OF 'laws.FnExactDigitsShown'. -/
def fnExactDigitsShownCard : Claim7 := { stood := { row := fnExactDigitsShownRow, standIns := [], harness := (true, "595c3021da076513d0a1a8f5eb2b6d86889c5c331549ea44c27f3e27b9cca17a"), looks := false }, kinds := [], alts := [], laidByText := true, laidKinds := [.data], laidTests := true, laidLooks := .later }
def FnExactDigitsShownCardSaid : Prop := Claim7.holds Tryd.pinned (.plain (OpenSpec.ofChange fnExactDigitsShownSpec)) fnExactDigitsShownCard

/-- THE TIED CARD OF 'laws.FnExactToldDigits'. -/
def fnExactToldDigitsCard : Claim7 := { stood := { row := fnExactToldDigitsRow, standIns := [], harness := (true, "595c3021da076513d0a1a8f5eb2b6d86889c5c331549ea44c27f3e27b9cca17a"), looks := false }, kinds := [], alts := [], laidByText := true, laidKinds := [.data], laidTests := true, laidLooks := .later }
def FnExactToldDigitsCardSaid : Prop := Claim7.holds Tryd.pinned (.plain (OpenSpec.ofChange fnExactToldDigitsSpec)) fnExactToldDigitsCard

/-- THE TIED CARD OF 'laws.FnExactConfusedDigits'. -/
def fnExactConfusedDigitsCard : Claim7 := { stood := { row := fnExactConfusedDigitsRow, standIns := [], harness := (true, "595c3021da076513d0a1a8f5eb2b6d86889c5c331549ea44c27f3e27b9cca17a"), looks := false }, kinds := [], alts := [], laidByText := true, laidKinds := [.data], laidTests := true, laidLooks := .later }
def FnExactConfusedDigitsCardSaid : Prop := Claim7.holds Tryd.pinned (.plain (OpenSpec.ofChange fnExactConfusedDigitsSpec)) fnExactConfusedDigitsCard

/-- THE TIED CARD OF 'laws.FnExactCountImages'. -/
def fnExactCountImagesCard : Claim7 := { stood := { row := fnExactCountImagesRow, standIns := [], harness := (true, "595c3021da076513d0a1a8f5eb2b6d86889c5c331549ea44c27f3e27b9cca17a"), looks := false }, kinds := [], alts := [], laidByText := true, laidKinds := [.data], laidTests := true, laidLooks := .later }
def FnExactCountImagesCardSaid : Prop := Claim7.holds Tryd.pinned (.plain (OpenSpec.ofChange fnExactCountImagesSpec)) fnExactCountImagesCard

/-- THE TIED CARD OF 'laws.FnExactIsHarmless'. -/
def fnExactIsHarmlessCard : Claim7 := { stood := { row := fnExactIsHarmlessRow, standIns := [], harness := (true, "595c3021da076513d0a1a8f5eb2b6d86889c5c331549ea44c27f3e27b9cca17a"), looks := false }, kinds := [], alts := [], laidByText := true, laidKinds := [.data], laidTests := true, laidLooks := .later }
def FnExactIsHarmlessCardSaid : Prop := Claim7.holds Tryd.pinned (.plain (OpenSpec.ofChange fnExactIsHarmlessSpec)) fnExactIsHarmlessCard

/-- THE TIED CARD OF 'laws.FnExactCountNumbers'. -/
def fnExactCountNumbersCard : Claim7 := { stood := { row := fnExactCountNumbersRow, standIns := [], harness := (true, "595c3021da076513d0a1a8f5eb2b6d86889c5c331549ea44c27f3e27b9cca17a"), looks := false }, kinds := [], alts := [], laidByText := true, laidKinds := [.data], laidTests := true, laidLooks := .later }
def FnExactCountNumbersCardSaid : Prop := Claim7.holds Tryd.pinned (.plain (OpenSpec.ofChange fnExactCountNumbersSpec)) fnExactCountNumbersCard

/-- THE TIED CARD OF 'laws.FnExactFirstNumber'. -/
def fnExactFirstNumberCard : Claim7 := { stood := { row := fnExactFirstNumberRow, standIns := [], harness := (true, "595c3021da076513d0a1a8f5eb2b6d86889c5c331549ea44c27f3e27b9cca17a"), looks := false }, kinds := [], alts := [], laidByText := true, laidKinds := [.data], laidTests := true, laidLooks := .later }
def FnExactFirstNumberCardSaid : Prop := Claim7.holds Tryd.pinned (.plain (OpenSpec.ofChange fnExactFirstNumberSpec)) fnExactFirstNumberCard

/-- THE SECOND FORM's CARD OF 'laws.FnExactDigitsShown'. -/
def fnExactDigitsShownUptoCard : Claim7 := { stood := { row := fnExactDigitsShownUptoRow, standIns := [], harness := (true, "595c3021da076513d0a1a8f5eb2b6d86889c5c331549ea44c27f3e27b9cca17a"), looks := false }, kinds := [], alts := [], laidByText := true, laidKinds := [.data], laidTests := true, laidLooks := .later }
def FnExactDigitsShownUptoCardSaid : Prop := Claim7.holds Tryd.pinned (.plain (OpenSpec.upto fnExactDigitsShownSpec)) fnExactDigitsShownUptoCard

/-- THE SECOND FORM's CARD OF 'laws.FnExactToldDigits'. -/
def fnExactToldDigitsUptoCard : Claim7 := { stood := { row := fnExactToldDigitsUptoRow, standIns := [], harness := (true, "595c3021da076513d0a1a8f5eb2b6d86889c5c331549ea44c27f3e27b9cca17a"), looks := false }, kinds := [], alts := [], laidByText := true, laidKinds := [.data], laidTests := true, laidLooks := .later }
def FnExactToldDigitsUptoCardSaid : Prop := Claim7.holds Tryd.pinned (.plain (OpenSpec.upto fnExactToldDigitsSpec)) fnExactToldDigitsUptoCard

/-- THE SECOND FORM's CARD OF 'laws.FnExactConfusedDigits'. -/
def fnExactConfusedDigitsUptoCard : Claim7 := { stood := { row := fnExactConfusedDigitsUptoRow, standIns := [], harness := (true, "595c3021da076513d0a1a8f5eb2b6d86889c5c331549ea44c27f3e27b9cca17a"), looks := false }, kinds := [], alts := [], laidByText := true, laidKinds := [.data], laidTests := true, laidLooks := .later }
def FnExactConfusedDigitsUptoCardSaid : Prop := Claim7.holds Tryd.pinned (.plain (OpenSpec.upto fnExactConfusedDigitsSpec)) fnExactConfusedDigitsUptoCard

/-- THE SECOND FORM's CARD OF 'laws.FnExactCountImages'. -/
def fnExactCountImagesUptoCard : Claim7 := { stood := { row := fnExactCountImagesUptoRow, standIns := [], harness := (true, "595c3021da076513d0a1a8f5eb2b6d86889c5c331549ea44c27f3e27b9cca17a"), looks := false }, kinds := [], alts := [], laidByText := true, laidKinds := [.data], laidTests := true, laidLooks := .later }
def FnExactCountImagesUptoCardSaid : Prop := Claim7.holds Tryd.pinned (.plain (OpenSpec.upto fnExactCountImagesSpec)) fnExactCountImagesUptoCard

/-- THE SECOND FORM's CARD OF 'laws.FnExactIsHarmless'. -/
def fnExactIsHarmlessUptoCard : Claim7 := { stood := { row := fnExactIsHarmlessUptoRow, standIns := [], harness := (true, "595c3021da076513d0a1a8f5eb2b6d86889c5c331549ea44c27f3e27b9cca17a"), looks := false }, kinds := [], alts := [], laidByText := true, laidKinds := [.data], laidTests := true, laidLooks := .later }
def FnExactIsHarmlessUptoCardSaid : Prop := Claim7.holds Tryd.pinned (.plain (OpenSpec.upto fnExactIsHarmlessSpec)) fnExactIsHarmlessUptoCard

/-- THE SECOND FORM's CARD OF 'laws.FnExactCountNumbers'. -/
def fnExactCountNumbersUptoCard : Claim7 := { stood := { row := fnExactCountNumbersUptoRow, standIns := [], harness := (true, "595c3021da076513d0a1a8f5eb2b6d86889c5c331549ea44c27f3e27b9cca17a"), looks := false }, kinds := [], alts := [], laidByText := true, laidKinds := [.data], laidTests := true, laidLooks := .later }
def FnExactCountNumbersUptoCardSaid : Prop := Claim7.holds Tryd.pinned (.plain (OpenSpec.upto fnExactCountNumbersSpec)) fnExactCountNumbersUptoCard

/-- THE SECOND FORM's CARD OF 'laws.FnExactFirstNumber'. -/
def fnExactFirstNumberUptoCard : Claim7 := { stood := { row := fnExactFirstNumberUptoRow, standIns := [], harness := (true, "595c3021da076513d0a1a8f5eb2b6d86889c5c331549ea44c27f3e27b9cca17a"), looks := false }, kinds := [], alts := [], laidByText := true, laidKinds := [.data], laidTests := true, laidLooks := .later }
def FnExactFirstNumberUptoCardSaid : Prop := Claim7.holds Tryd.pinned (.plain (OpenSpec.upto fnExactFirstNumberSpec)) fnExactFirstNumberUptoCard
end Rows
end Go.Proofs.YtegccncfiimjkabDoor
