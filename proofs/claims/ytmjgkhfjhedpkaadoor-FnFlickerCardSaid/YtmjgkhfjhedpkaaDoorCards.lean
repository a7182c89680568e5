/-
  DERIVED. GIVEN WITH THE SEED: THE CARDS: each row of YtmjgkhfjhedpkaaDoorRows.lean that lists a variable, with what it lists TIED to the program's text (the seventh form; the later family's looks); each row that meets fmt, with fmt's text TOLD by the authors' own Lean function (tested against real Go, not proved from fmt's source: count such statements apart). THE CARD IS WHAT COUNTS. Prove the row's statement (the work); the ties are given (YtmjgkhfjhedpkaaDoorTie.lean); close each card by the builder's one call (the guide's Derived/Test/ToyasCard.lean, 'card_holds'). Laid BY PROGRAM, IN A SANDBOX (cutbox-door.mjs). By AI agents, Wed Nov 11 2026. No macro, syntax, notation, axiom, sorry.
-/
import Derived.Test.YtmjgkhfjhedpkaaDoorRows
import GoSem.ClaimSeven
namespace Go.Proofs.YtmjgkhfjhedpkaaDoor
namespace Rows

/-- THE TIED CARD OF 'laws.FnFlicker'. -/
def fnFlickerCard : Claim7 := { stood := { row := fnFlickerRow, standIns := [], harness := (true, "825b22496ce64f5e1efb272556f9ecee331f77efb07f990ff3c1c3bf7c3e97fd"), looks := false }, kinds := [], alts := [], laidByText := true, laidKinds := [.data, .data], laidTests := true, laidLooks := .later }
def FnFlickerCardSaid : Prop := Claim7.holds Tryd.pinned (.plain (OpenSpec.ofChange fnFlickerSpec)) fnFlickerCard

/-- THE TIED CARD OF 'laws.FnExactChanceNoDigit'. -/
def fnExactChanceNoDigitCard : Claim7 := { stood := { row := fnExactChanceNoDigitRow, standIns := [], harness := (true, "825b22496ce64f5e1efb272556f9ecee331f77efb07f990ff3c1c3bf7c3e97fd"), looks := false }, kinds := [], alts := [], laidByText := true, laidKinds := [.data, .data], laidTests := true, laidLooks := .later }
def FnExactChanceNoDigitCardSaid : Prop := Claim7.holds Tryd.pinned (.plain (OpenSpec.ofChange fnExactChanceNoDigitSpec)) fnExactChanceNoDigitCard

/-- THE TIED CARD OF 'laws.FnExactChancesFor'. -/
def fnExactChancesForCard : Claim7 := { stood := { row := fnExactChancesForRow, standIns := [], harness := (true, "825b22496ce64f5e1efb272556f9ecee331f77efb07f990ff3c1c3bf7c3e97fd"), looks := false }, kinds := [], alts := [], laidByText := true, laidKinds := [.data, .data], laidTests := true, laidLooks := .later }
def FnExactChancesForCardSaid : Prop := Claim7.holds Tryd.pinned (.plain (OpenSpec.ofChange fnExactChancesForSpec)) fnExactChancesForCard

/-- THE SECOND FORM's CARD OF 'laws.FnFlicker'. -/
def fnFlickerUptoCard : Claim7 := { stood := { row := fnFlickerUptoRow, standIns := [], harness := (true, "825b22496ce64f5e1efb272556f9ecee331f77efb07f990ff3c1c3bf7c3e97fd"), looks := false }, kinds := [], alts := [], laidByText := true, laidKinds := [.data, .data], laidTests := true, laidLooks := .later }
def FnFlickerUptoCardSaid : Prop := Claim7.holds Tryd.pinned (.plain (OpenSpec.upto fnFlickerSpec)) fnFlickerUptoCard

/-- THE SECOND FORM's CARD OF 'laws.FnExactChanceNoDigit'. -/
def fnExactChanceNoDigitUptoCard : Claim7 := { stood := { row := fnExactChanceNoDigitUptoRow, standIns := [], harness := (true, "825b22496ce64f5e1efb272556f9ecee331f77efb07f990ff3c1c3bf7c3e97fd"), looks := false }, kinds := [], alts := [], laidByText := true, laidKinds := [.data, .data], laidTests := true, laidLooks := .later }
def FnExactChanceNoDigitUptoCardSaid : Prop := Claim7.holds Tryd.pinned (.plain (OpenSpec.upto fnExactChanceNoDigitSpec)) fnExactChanceNoDigitUptoCard

/-- THE SECOND FORM's CARD OF 'laws.FnExactChancesFor'. -/
def fnExactChancesForUptoCard : Claim7 := { stood := { row := fnExactChancesForUptoRow, standIns := [], harness := (true, "825b22496ce64f5e1efb272556f9ecee331f77efb07f990ff3c1c3bf7c3e97fd"), looks := false }, kinds := [], alts := [], laidByText := true, laidKinds := [.data, .data], laidTests := true, laidLooks := .later }
def FnExactChancesForUptoCardSaid : Prop := Claim7.holds Tryd.pinned (.plain (OpenSpec.upto fnExactChancesForSpec)) fnExactChancesForUptoCard
end Rows
end Go.Proofs.YtmjgkhfjhedpkaaDoor
