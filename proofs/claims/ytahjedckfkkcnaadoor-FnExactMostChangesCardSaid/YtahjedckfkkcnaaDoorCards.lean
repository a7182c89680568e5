/-
  DERIVED. GIVEN WITH THE SEED: THE CARDS: each row of YtahjedckfkkcnaaDoorRows.lean that lists a variable, with what it lists TIED to the program's text (the seventh form; the later family's looks); each row that meets fmt, with fmt's text TOLD by the authors' own Lean function (tested against real Go, not proved from fmt's source: count such statements apart). THE CARD IS WHAT COUNTS. Prove the row's statement (the work); the ties are given (YtahjedckfkkcnaaDoorTie.lean); close each card by the builder's one call (the guide's Derived/Test/ToyasCard.lean, 'card_holds'). Laid BY PROGRAM, IN A SANDBOX (cutbox-door.mjs). By AI agents, Wed Nov 11 2026. No macro, syntax, notation, axiom, sorry.
-/
import Derived.Test.YtahjedckfkkcnaaDoorRows
import GoSem.ClaimSeven
namespace Go.Proofs.YtahjedckfkkcnaaDoor
namespace Rows

/-- THE TIED CARD OF 'laws.FnExactCounterRow'. -/
def fnExactCounterRowCard : Claim7 := { stood := { row := fnExactCounterRowRow, standIns := [], harness := (true, "7e08ef0be8ae2a1299527da14c44b53a506fd869e35019a52797a7bd5bb9f511"), looks := false }, kinds := [], alts := [], laidByText := true, laidKinds := [.data], laidTests := true, laidLooks := .later }
def FnExactCounterRowCardSaid : Prop := Claim7.holds Tryd.pinned (.plain (OpenSpec.ofChange fnExactCounterRowSpec)) fnExactCounterRowCard

/-- THE TIED CARD OF 'laws.FnExactStepChanges'. -/
def fnExactStepChangesCard : Claim7 := { stood := { row := fnExactStepChangesRow, standIns := [], harness := (true, "7e08ef0be8ae2a1299527da14c44b53a506fd869e35019a52797a7bd5bb9f511"), looks := false }, kinds := [], alts := [], laidByText := true, laidKinds := [.data], laidTests := true, laidLooks := .later }
def FnExactStepChangesCardSaid : Prop := Claim7.holds Tryd.pinned (.plain (OpenSpec.ofChange fnExactStepChangesSpec)) fnExactStepChangesCard

/-- THE TIED CARD OF 'laws.FnExactRunChanges'. -/
def fnExactRunChangesCard : Claim7 := { stood := { row := fnExactRunChangesRow, standIns := [], harness := (true, "7e08ef0be8ae2a1299527da14c44b53a506fd869e35019a52797a7bd5bb9f511"), looks := false }, kinds := [], alts := [], laidByText := true, laidKinds := [.data], laidTests := true, laidLooks := .later }
def FnExactRunChangesCardSaid : Prop := Claim7.holds Tryd.pinned (.plain (OpenSpec.ofChange fnExactRunChangesSpec)) fnExactRunChangesCard

/-- THE TIED CARD OF 'laws.FnExactWearOf'. -/
def fnExactWearOfCard : Claim7 := { stood := { row := fnExactWearOfRow, standIns := [], harness := (true, "7e08ef0be8ae2a1299527da14c44b53a506fd869e35019a52797a7bd5bb9f511"), looks := false }, kinds := [], alts := [], laidByText := true, laidKinds := [.data], laidTests := true, laidLooks := .later }
def FnExactWearOfCardSaid : Prop := Claim7.holds Tryd.pinned (.plain (OpenSpec.ofChange fnExactWearOfSpec)) fnExactWearOfCard

/-- THE TIED CARD OF 'laws.FnExactLightOf'. -/
def fnExactLightOfCard : Claim7 := { stood := { row := fnExactLightOfRow, standIns := [], harness := (true, "7e08ef0be8ae2a1299527da14c44b53a506fd869e35019a52797a7bd5bb9f511"), looks := false }, kinds := [], alts := [], laidByText := true, laidKinds := [.data], laidTests := true, laidLooks := .later }
def FnExactLightOfCardSaid : Prop := Claim7.holds Tryd.pinned (.plain (OpenSpec.ofChange fnExactLightOfSpec)) fnExactLightOfCard

/-- THE TIED CARD OF 'laws.FnExactMostChanges'. -/
def fnExactMostChangesCard : Claim7 := { stood := { row := fnExactMostChangesRow, standIns := [], harness := (true, "7e08ef0be8ae2a1299527da14c44b53a506fd869e35019a52797a7bd5bb9f511"), looks := false }, kinds := [], alts := [], laidByText := true, laidKinds := [.data], laidTests := true, laidLooks := .later }
def FnExactMostChangesCardSaid : Prop := Claim7.holds Tryd.pinned (.plain (OpenSpec.ofChange fnExactMostChangesSpec)) fnExactMostChangesCard

/-- THE TIED CARD OF 'laws.FnExactFirstOver'. -/
def fnExactFirstOverCard : Claim7 := { stood := { row := fnExactFirstOverRow, standIns := [], harness := (true, "7e08ef0be8ae2a1299527da14c44b53a506fd869e35019a52797a7bd5bb9f511"), looks := false }, kinds := [], alts := [], laidByText := true, laidKinds := [.data], laidTests := true, laidLooks := .later }
def FnExactFirstOverCardSaid : Prop := Claim7.holds Tryd.pinned (.plain (OpenSpec.ofChange fnExactFirstOverSpec)) fnExactFirstOverCard

/-- THE TIED CARD OF 'laws.FnCounters'. -/
def fnCountersCard : Claim7 := { stood := { row := fnCountersRow, standIns := [], harness := (true, "7e08ef0be8ae2a1299527da14c44b53a506fd869e35019a52797a7bd5bb9f511"), looks := false }, kinds := [], alts := [], laidByText := true, laidKinds := [.data], laidTests := true, laidLooks := .later }
def FnCountersCardSaid : Prop := Claim7.holds Tryd.pinned (.plain (OpenSpec.ofChange fnCountersSpec)) fnCountersCard

/-- THE SECOND FORM's CARD OF 'laws.FnExactCounterRow'. -/
def fnExactCounterRowUptoCard : Claim7 := { stood := { row := fnExactCounterRowUptoRow, standIns := [], harness := (true, "7e08ef0be8ae2a1299527da14c44b53a506fd869e35019a52797a7bd5bb9f511"), looks := false }, kinds := [], alts := [], laidByText := true, laidKinds := [.data], laidTests := true, laidLooks := .later }
def FnExactCounterRowUptoCardSaid : Prop := Claim7.holds Tryd.pinned (.plain (OpenSpec.upto fnExactCounterRowSpec)) fnExactCounterRowUptoCard

/-- THE SECOND FORM's CARD OF 'laws.FnExactStepChanges'. -/
def fnExactStepChangesUptoCard : Claim7 := { stood := { row := fnExactStepChangesUptoRow, standIns := [], harness := (true, "7e08ef0be8ae2a1299527da14c44b53a506fd869e35019a52797a7bd5bb9f511"), looks := false }, kinds := [], alts := [], laidByText := true, laidKinds := [.data], laidTests := true, laidLooks := .later }
def FnExactStepChangesUptoCardSaid : Prop := Claim7.holds Tryd.pinned (.plain (OpenSpec.upto fnExactStepChangesSpec)) fnExactStepChangesUptoCard

/-- THE SECOND FORM's CARD OF 'laws.FnExactRunChanges'. -/
def fnExactRunChangesUptoCard : Claim7 := { stood := { row := fnExactRunChangesUptoRow, standIns := [], harness := (true, "7e08ef0be8ae2a1299527da14c44b53a506fd869e35019a52797a7bd5bb9f511"), looks := false }, kinds := [], alts := [], laidByText := true, laidKinds := [.data], laidTests := true, laidLooks := .later }
def FnExactRunChangesUptoCardSaid : Prop := Claim7.holds Tryd.pinned (.plain (OpenSpec.upto fnExactRunChangesSpec)) fnExactRunChangesUptoCard

/-- THE SECOND FORM's CARD OF 'laws.FnExactWearOf'. -/
def fnExactWearOfUptoCard : Claim7 := { stood := { row := fnExactWearOfUptoRow, standIns := [], harness := (true, "7e08ef0be8ae2a1299527da14c44b53a506fd869e35019a52797a7bd5bb9f511"), looks := false }, kinds := [], alts := [], laidByText := true, laidKinds := [.data], laidTests := true, laidLooks := .later }
def FnExactWearOfUptoCardSaid : Prop := Claim7.holds Tryd.pinned (.plain (OpenSpec.upto fnExactWearOfSpec)) fnExactWearOfUptoCard

/-- THE SECOND FORM's CARD OF 'laws.FnExactLightOf'. -/
def fnExactLightOfUptoCard : Claim7 := { stood := { row := fnExactLightOfUptoRow, standIns := [], harness := (true, "7e08ef0be8ae2a1299527da14c44b53a506fd869e35019a52797a7bd5bb9f511"), looks := false }, kinds := [], alts := [], laidByText := true, laidKinds := [.data], laidTests := true, laidLooks := .later }
def FnExactLightOfUptoCardSaid : Prop := Claim7.holds Tryd.pinned (.plain (OpenSpec.upto fnExactLightOfSpec)) fnExactLightOfUptoCard

/-- THE SECOND FORM's CARD OF 'laws.FnExactMostChanges'. -/
def fnExactMostChangesUptoCard : Claim7 := { stood := { row := fnExactMostChangesUptoRow, standIns := [], harness := (true, "7e08ef0be8ae2a1299527da14c44b53a506fd869e35019a52797a7bd5bb9f511"), looks := false }, kinds := [], alts := [], laidByText := true, laidKinds := [.data], laidTests := true, laidLooks := .later }
def FnExactMostChangesUptoCardSaid : Prop := Claim7.holds Tryd.pinned (.plain (OpenSpec.upto fnExactMostChangesSpec)) fnExactMostChangesUptoCard

/-- THE SECOND FORM's CARD OF 'laws.FnExactFirstOver'. -/
def fnExactFirstOverUptoCard : Claim7 := { stood := { row := fnExactFirstOverUptoRow, standIns := [], harness := (true, "7e08ef0be8ae2a1299527da14c44b53a506fd869e35019a52797a7bd5bb9f511"), looks := false }, kinds := [], alts := [], laidByText := true, laidKinds := [.data], laidTests := true, laidLooks := .later }
def FnExactFirstOverUptoCardSaid : Prop := Claim7.holds Tryd.pinned (.plain (OpenSpec.upto fnExactFirstOverSpec)) fnExactFirstOverUptoCard

/-- THE SECOND FORM's CARD OF 'laws.FnCounters'. -/
def fnCountersUptoCard : Claim7 := { stood := { row := fnCountersUptoRow, standIns := [], harness := (true, "7e08ef0be8ae2a1299527da14c44b53a506fd869e35019a52797a7bd5bb9f511"), looks := false }, kinds := [], alts := [], laidByText := true, laidKinds := [.data], laidTests := true, laidLooks := .later }
def FnCountersUptoCardSaid : Prop := Claim7.holds Tryd.pinned (.plain (OpenSpec.upto fnCountersSpec)) fnCountersUptoCard
end Rows
end Go.Proofs.YtahjedckfkkcnaaDoor
