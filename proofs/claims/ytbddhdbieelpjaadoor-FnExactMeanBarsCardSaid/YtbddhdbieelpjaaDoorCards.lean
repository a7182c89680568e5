/-
  DERIVED. GIVEN WITH THE SEED: THE CARDS: each row of YtbddhdbieelpjaaDoorRows.lean that lists a variable, with what it lists TIED to the program's text (the seventh form; the later family's looks); each row that meets fmt, with fmt's text TOLD by the authors' own Lean function (tested against real Go, not proved from fmt's source: count such statements apart). THE CARD IS WHAT COUNTS. Prove the row's statement (the work); the ties are given (YtbddhdbieelpjaaDoorTie.lean); close each card by the builder's one call (the guide's Derived/Test/ToyasCard.lean, 'card_holds'). Laid BY PROGRAM, IN A SANDBOX (cutbox-door.mjs). By AI agents, Wed Nov 11 2026. No macro, syntax, notation, axiom, sorry.
-/
import Derived.Test.YtbddhdbieelpjaaDoorRows
import GoSem.ClaimSeven
namespace Go.Proofs.YtbddhdbieelpjaaDoor
namespace Rows

/-- THE TIED CARD OF 'laws.FnFlicker'. -/
def fnFlickerCard : Claim7 := { stood := { row := fnFlickerRow, standIns := [], harness := (true, "a2c4d911b6045dae72b5e04d1fceb5e79ce95e901d8e9f9efc49e1aef3aa5f80"), looks := false }, kinds := [], alts := [], laidByText := true, laidKinds := [.data, .data], laidTests := true, laidLooks := .later }
def FnFlickerCardSaid : Prop := Claim7.holds Tryd.pinned (.plain (OpenSpec.ofChange fnFlickerSpec)) fnFlickerCard

/-- THE TIED CARD OF 'laws.FnExactChanceReadAs'. -/
def fnExactChanceReadAsCard : Claim7 := { stood := { row := fnExactChanceReadAsRow, standIns := [], harness := (true, "a2c4d911b6045dae72b5e04d1fceb5e79ce95e901d8e9f9efc49e1aef3aa5f80"), looks := false }, kinds := [], alts := [], laidByText := true, laidKinds := [.data], laidTests := true, laidLooks := .later }
def FnExactChanceReadAsCardSaid : Prop := Claim7.holds Tryd.pinned (.plain (OpenSpec.ofChange fnExactChanceReadAsSpec)) fnExactChanceReadAsCard

/-- THE TIED CARD OF 'laws.FnExactChanceNoDigit'. -/
def fnExactChanceNoDigitCard : Claim7 := { stood := { row := fnExactChanceNoDigitRow, standIns := [], harness := (true, "a2c4d911b6045dae72b5e04d1fceb5e79ce95e901d8e9f9efc49e1aef3aa5f80"), looks := false }, kinds := [], alts := [], laidByText := true, laidKinds := [.data, .data], laidTests := true, laidLooks := .later }
def FnExactChanceNoDigitCardSaid : Prop := Claim7.holds Tryd.pinned (.plain (OpenSpec.ofChange fnExactChanceNoDigitSpec)) fnExactChanceNoDigitCard

/-- THE TIED CARD OF 'laws.FnExactChancesFor'. -/
def fnExactChancesForCard : Claim7 := { stood := { row := fnExactChancesForRow, standIns := [], harness := (true, "a2c4d911b6045dae72b5e04d1fceb5e79ce95e901d8e9f9efc49e1aef3aa5f80"), looks := false }, kinds := [], alts := [], laidByText := true, laidKinds := [.data, .data], laidTests := true, laidLooks := .later }
def FnExactChancesForCardSaid : Prop := Claim7.holds Tryd.pinned (.plain (OpenSpec.ofChange fnExactChancesForSpec)) fnExactChancesForCard

/-- THE TIED CARD OF 'laws.FnExactMeanBars'. -/
def fnExactMeanBarsCard : Claim7 := { stood := { row := fnExactMeanBarsRow, standIns := [], harness := (true, "a2c4d911b6045dae72b5e04d1fceb5e79ce95e901d8e9f9efc49e1aef3aa5f80"), looks := false }, kinds := [], alts := [], laidByText := true, laidKinds := [.data, .data, .data, .data], laidTests := true, laidLooks := .later }
def FnExactMeanBarsCardSaid : Prop := Claim7.holds Tryd.pinned (.plain (OpenSpec.ofChange fnExactMeanBarsSpec)) fnExactMeanBarsCard

/-- THE TIED CARD OF 'laws.FnExactMeanImages'. -/
def fnExactMeanImagesCard : Claim7 := { stood := { row := fnExactMeanImagesRow, standIns := [], harness := (true, "a2c4d911b6045dae72b5e04d1fceb5e79ce95e901d8e9f9efc49e1aef3aa5f80"), looks := false }, kinds := [], alts := [], laidByText := true, laidKinds := [.data], laidTests := true, laidLooks := .later }
def FnExactMeanImagesCardSaid : Prop := Claim7.holds Tryd.pinned (.plain (OpenSpec.ofChange fnExactMeanImagesSpec)) fnExactMeanImagesCard

/-- THE TIED CARD OF 'laws.FnExactChanceTold'. -/
def fnExactChanceToldCard : Claim7 := { stood := { row := fnExactChanceToldRow, standIns := [], harness := (true, "a2c4d911b6045dae72b5e04d1fceb5e79ce95e901d8e9f9efc49e1aef3aa5f80"), looks := false }, kinds := [], alts := [], laidByText := true, laidKinds := [.data], laidTests := true, laidLooks := .later }
def FnExactChanceToldCardSaid : Prop := Claim7.holds Tryd.pinned (.plain (OpenSpec.ofChange fnExactChanceToldSpec)) fnExactChanceToldCard

/-- THE TIED CARD OF 'laws.FnExactChanceHarmless'. -/
def fnExactChanceHarmlessCard : Claim7 := { stood := { row := fnExactChanceHarmlessRow, standIns := [], harness := (true, "a2c4d911b6045dae72b5e04d1fceb5e79ce95e901d8e9f9efc49e1aef3aa5f80"), looks := false }, kinds := [], alts := [], laidByText := true, laidKinds := [.data], laidTests := true, laidLooks := .later }
def FnExactChanceHarmlessCardSaid : Prop := Claim7.holds Tryd.pinned (.plain (OpenSpec.ofChange fnExactChanceHarmlessSpec)) fnExactChanceHarmlessCard

/-- THE TIED CARD OF 'laws.FnExactChanceFull'. -/
def fnExactChanceFullCard : Claim7 := { stood := { row := fnExactChanceFullRow, standIns := [], harness := (true, "a2c4d911b6045dae72b5e04d1fceb5e79ce95e901d8e9f9efc49e1aef3aa5f80"), looks := false }, kinds := [], alts := [], laidByText := true, laidKinds := [.data], laidTests := true, laidLooks := .later }
def FnExactChanceFullCardSaid : Prop := Claim7.holds Tryd.pinned (.plain (OpenSpec.ofChange fnExactChanceFullSpec)) fnExactChanceFullCard

/-- THE TIED CARD OF 'laws.FnExactMeanFound'. -/
def fnExactMeanFoundCard : Claim7 := { stood := { row := fnExactMeanFoundRow, standIns := [], harness := (true, "a2c4d911b6045dae72b5e04d1fceb5e79ce95e901d8e9f9efc49e1aef3aa5f80"), looks := false }, kinds := [], alts := [], laidByText := true, laidKinds := [.data], laidTests := true, laidLooks := .later }
def FnExactMeanFoundCardSaid : Prop := Claim7.holds Tryd.pinned (.plain (OpenSpec.ofChange fnExactMeanFoundSpec)) fnExactMeanFoundCard

/-- THE TIED CARD OF 'laws.FnExactMeanChanges'. -/
def fnExactMeanChangesCard : Claim7 := { stood := { row := fnExactMeanChangesRow, standIns := [], harness := (true, "a2c4d911b6045dae72b5e04d1fceb5e79ce95e901d8e9f9efc49e1aef3aa5f80"), looks := false }, kinds := [], alts := [], laidByText := true, laidKinds := [.data], laidTests := true, laidLooks := .later }
def FnExactMeanChangesCardSaid : Prop := Claim7.holds Tryd.pinned (.plain (OpenSpec.ofChange fnExactMeanChangesSpec)) fnExactMeanChangesCard

/-- THE TIED CARD OF 'laws.FnExactChanceSameDigit'. -/
def fnExactChanceSameDigitCard : Claim7 := { stood := { row := fnExactChanceSameDigitRow, standIns := [], harness := (true, "a2c4d911b6045dae72b5e04d1fceb5e79ce95e901d8e9f9efc49e1aef3aa5f80"), looks := false }, kinds := [], alts := [], laidByText := true, laidKinds := [.data], laidTests := true, laidLooks := .later }
def FnExactChanceSameDigitCardSaid : Prop := Claim7.holds Tryd.pinned (.plain (OpenSpec.ofChange fnExactChanceSameDigitSpec)) fnExactChanceSameDigitCard

/-- THE SECOND FORM's CARD OF 'laws.FnFlicker'. -/
def fnFlickerUptoCard : Claim7 := { stood := { row := fnFlickerUptoRow, standIns := [], harness := (true, "a2c4d911b6045dae72b5e04d1fceb5e79ce95e901d8e9f9efc49e1aef3aa5f80"), looks := false }, kinds := [], alts := [], laidByText := true, laidKinds := [.data, .data], laidTests := true, laidLooks := .later }
def FnFlickerUptoCardSaid : Prop := Claim7.holds Tryd.pinned (.plain (OpenSpec.upto fnFlickerSpec)) fnFlickerUptoCard

/-- THE SECOND FORM's CARD OF 'laws.FnExactChanceReadAs'. -/
def fnExactChanceReadAsUptoCard : Claim7 := { stood := { row := fnExactChanceReadAsUptoRow, standIns := [], harness := (true, "a2c4d911b6045dae72b5e04d1fceb5e79ce95e901d8e9f9efc49e1aef3aa5f80"), looks := false }, kinds := [], alts := [], laidByText := true, laidKinds := [.data], laidTests := true, laidLooks := .later }
def FnExactChanceReadAsUptoCardSaid : Prop := Claim7.holds Tryd.pinned (.plain (OpenSpec.upto fnExactChanceReadAsSpec)) fnExactChanceReadAsUptoCard

/-- THE SECOND FORM's CARD OF 'laws.FnExactChanceNoDigit'. -/
def fnExactChanceNoDigitUptoCard : Claim7 := { stood := { row := fnExactChanceNoDigitUptoRow, standIns := [], harness := (true, "a2c4d911b6045dae72b5e04d1fceb5e79ce95e901d8e9f9efc49e1aef3aa5f80"), looks := false }, kinds := [], alts := [], laidByText := true, laidKinds := [.data, .data], laidTests := true, laidLooks := .later }
def FnExactChanceNoDigitUptoCardSaid : Prop := Claim7.holds Tryd.pinned (.plain (OpenSpec.upto fnExactChanceNoDigitSpec)) fnExactChanceNoDigitUptoCard

/-- THE SECOND FORM's CARD OF 'laws.FnExactChancesFor'. -/
def fnExactChancesForUptoCard : Claim7 := { stood := { row := fnExactChancesForUptoRow, standIns := [], harness := (true, "a2c4d911b6045dae72b5e04d1fceb5e79ce95e901d8e9f9efc49e1aef3aa5f80"), looks := false }, kinds := [], alts := [], laidByText := true, laidKinds := [.data, .data], laidTests := true, laidLooks := .later }
def FnExactChancesForUptoCardSaid : Prop := Claim7.holds Tryd.pinned (.plain (OpenSpec.upto fnExactChancesForSpec)) fnExactChancesForUptoCard

/-- THE SECOND FORM's CARD OF 'laws.FnExactMeanBars'. -/
def fnExactMeanBarsUptoCard : Claim7 := { stood := { row := fnExactMeanBarsUptoRow, standIns := [], harness := (true, "a2c4d911b6045dae72b5e04d1fceb5e79ce95e901d8e9f9efc49e1aef3aa5f80"), looks := false }, kinds := [], alts := [], laidByText := true, laidKinds := [.data, .data, .data, .data], laidTests := true, laidLooks := .later }
def FnExactMeanBarsUptoCardSaid : Prop := Claim7.holds Tryd.pinned (.plain (OpenSpec.upto fnExactMeanBarsSpec)) fnExactMeanBarsUptoCard

/-- THE SECOND FORM's CARD OF 'laws.FnExactMeanImages'. -/
def fnExactMeanImagesUptoCard : Claim7 := { stood := { row := fnExactMeanImagesUptoRow, standIns := [], harness := (true, "a2c4d911b6045dae72b5e04d1fceb5e79ce95e901d8e9f9efc49e1aef3aa5f80"), looks := false }, kinds := [], alts := [], laidByText := true, laidKinds := [.data], laidTests := true, laidLooks := .later }
def FnExactMeanImagesUptoCardSaid : Prop := Claim7.holds Tryd.pinned (.plain (OpenSpec.upto fnExactMeanImagesSpec)) fnExactMeanImagesUptoCard

/-- THE SECOND FORM's CARD OF 'laws.FnExactChanceTold'. -/
def fnExactChanceToldUptoCard : Claim7 := { stood := { row := fnExactChanceToldUptoRow, standIns := [], harness := (true, "a2c4d911b6045dae72b5e04d1fceb5e79ce95e901d8e9f9efc49e1aef3aa5f80"), looks := false }, kinds := [], alts := [], laidByText := true, laidKinds := [.data], laidTests := true, laidLooks := .later }
def FnExactChanceToldUptoCardSaid : Prop := Claim7.holds Tryd.pinned (.plain (OpenSpec.upto fnExactChanceToldSpec)) fnExactChanceToldUptoCard

/-- THE SECOND FORM's CARD OF 'laws.FnExactChanceHarmless'. -/
def fnExactChanceHarmlessUptoCard : Claim7 := { stood := { row := fnExactChanceHarmlessUptoRow, standIns := [], harness := (true, "a2c4d911b6045dae72b5e04d1fceb5e79ce95e901d8e9f9efc49e1aef3aa5f80"), looks := false }, kinds := [], alts := [], laidByText := true, laidKinds := [.data], laidTests := true, laidLooks := .later }
def FnExactChanceHarmlessUptoCardSaid : Prop := Claim7.holds Tryd.pinned (.plain (OpenSpec.upto fnExactChanceHarmlessSpec)) fnExactChanceHarmlessUptoCard

/-- THE SECOND FORM's CARD OF 'laws.FnExactChanceFull'. -/
def fnExactChanceFullUptoCard : Claim7 := { stood := { row := fnExactChanceFullUptoRow, standIns := [], harness := (true, "a2c4d911b6045dae72b5e04d1fceb5e79ce95e901d8e9f9efc49e1aef3aa5f80"), looks := false }, kinds := [], alts := [], laidByText := true, laidKinds := [.data], laidTests := true, laidLooks := .later }
def FnExactChanceFullUptoCardSaid : Prop := Claim7.holds Tryd.pinned (.plain (OpenSpec.upto fnExactChanceFullSpec)) fnExactChanceFullUptoCard

/-- THE SECOND FORM's CARD OF 'laws.FnExactMeanFound'. -/
def fnExactMeanFoundUptoCard : Claim7 := { stood := { row := fnExactMeanFoundUptoRow, standIns := [], harness := (true, "a2c4d911b6045dae72b5e04d1fceb5e79ce95e901d8e9f9efc49e1aef3aa5f80"), looks := false }, kinds := [], alts := [], laidByText := true, laidKinds := [.data], laidTests := true, laidLooks := .later }
def FnExactMeanFoundUptoCardSaid : Prop := Claim7.holds Tryd.pinned (.plain (OpenSpec.upto fnExactMeanFoundSpec)) fnExactMeanFoundUptoCard

/-- THE SECOND FORM's CARD OF 'laws.FnExactMeanChanges'. -/
def fnExactMeanChangesUptoCard : Claim7 := { stood := { row := fnExactMeanChangesUptoRow, standIns := [], harness := (true, "a2c4d911b6045dae72b5e04d1fceb5e79ce95e901d8e9f9efc49e1aef3aa5f80"), looks := false }, kinds := [], alts := [], laidByText := true, laidKinds := [.data], laidTests := true, laidLooks := .later }
def FnExactMeanChangesUptoCardSaid : Prop := Claim7.holds Tryd.pinned (.plain (OpenSpec.upto fnExactMeanChangesSpec)) fnExactMeanChangesUptoCard

/-- THE SECOND FORM's CARD OF 'laws.FnExactChanceSameDigit'. -/
def fnExactChanceSameDigitUptoCard : Claim7 := { stood := { row := fnExactChanceSameDigitUptoRow, standIns := [], harness := (true, "a2c4d911b6045dae72b5e04d1fceb5e79ce95e901d8e9f9efc49e1aef3aa5f80"), looks := false }, kinds := [], alts := [], laidByText := true, laidKinds := [.data], laidTests := true, laidLooks := .later }
def FnExactChanceSameDigitUptoCardSaid : Prop := Claim7.holds Tryd.pinned (.plain (OpenSpec.upto fnExactChanceSameDigitSpec)) fnExactChanceSameDigitUptoCard
end Rows
end Go.Proofs.YtbddhdbieelpjaaDoor
