/-
  DERIVED. GIVEN WITH THE SEED: THE CARDS: each row of YtdlckhdalbagmabDoorRows.lean that lists a variable, with what it lists TIED to the program's text (the seventh form; the later family's looks); each row that meets fmt, with fmt's text TOLD by the authors' own Lean function (tested against real Go, not proved from fmt's source: count such statements apart). THE CARD IS WHAT COUNTS. Prove the row's statement (the work); the ties are given (YtdlckhdalbagmabDoorTie.lean); close each card by the builder's one call (the guide's Derived/Test/ToyasCard.lean, 'card_holds'). Laid BY PROGRAM, IN A SANDBOX (cutbox-door.mjs). By AI agents, Wed Nov 11 2026. No macro, syntax, notation, axiom, sorry.
-/
import Derived.Test.YtdlckhdalbagmabDoorRows
import GoSem.ClaimSeven
namespace Go.Proofs.YtdlckhdalbagmabDoor
namespace Rows

/-- THE TIED CARD OF 'laws.FnExactWaitForMirror'. -/
def fnExactWaitForMirrorCard : Claim7 := { stood := { row := fnExactWaitForMirrorRow, standIns := [], harness := (true, "bc08d2c7b479348e7aeebb806ac72b3e97655373d9bb419202828d0d440d69a6"), looks := false }, kinds := [], alts := [], laidByText := true, laidKinds := [.data], laidTests := true, laidLooks := .later }
def FnExactWaitForMirrorCardSaid : Prop := Claim7.holds Tryd.pinned (.plain (OpenSpec.ofChange fnExactWaitForMirrorSpec)) fnExactWaitForMirrorCard

/-- THE TIED CARD OF 'laws.FnExactApartInMirror'. -/
def fnExactApartInMirrorCard : Claim7 := { stood := { row := fnExactApartInMirrorRow, standIns := [], harness := (true, "bc08d2c7b479348e7aeebb806ac72b3e97655373d9bb419202828d0d440d69a6"), looks := false }, kinds := [], alts := [], laidByText := true, laidKinds := [.data], laidTests := true, laidLooks := .later }
def FnExactApartInMirrorCardSaid : Prop := Claim7.holds Tryd.pinned (.plain (OpenSpec.ofChange fnExactApartInMirrorSpec)) fnExactApartInMirrorCard

/-- THE TIED CARD OF 'laws.FnExactLitAt'. -/
def fnExactLitAtCard : Claim7 := { stood := { row := fnExactLitAtRow, standIns := [], harness := (true, "bc08d2c7b479348e7aeebb806ac72b3e97655373d9bb419202828d0d440d69a6"), looks := false }, kinds := [], alts := [], laidByText := true, laidKinds := [.data], laidTests := true, laidLooks := .later }
def FnExactLitAtCardSaid : Prop := Claim7.holds Tryd.pinned (.plain (OpenSpec.ofChange fnExactLitAtSpec)) fnExactLitAtCard

/-- THE TIED CARD OF 'laws.FnExactBrightestTime'. -/
def fnExactBrightestTimeCard : Claim7 := { stood := { row := fnExactBrightestTimeRow, standIns := [], harness := (true, "bc08d2c7b479348e7aeebb806ac72b3e97655373d9bb419202828d0d440d69a6"), looks := false }, kinds := [], alts := [], laidByText := true, laidKinds := [.data], laidTests := true, laidLooks := .later }
def FnExactBrightestTimeCardSaid : Prop := Claim7.holds Tryd.pinned (.plain (OpenSpec.ofChange fnExactBrightestTimeSpec)) fnExactBrightestTimeCard

/-- THE TIED CARD OF 'laws.FnExactDarkestTime'. -/
def fnExactDarkestTimeCard : Claim7 := { stood := { row := fnExactDarkestTimeRow, standIns := [], harness := (true, "bc08d2c7b479348e7aeebb806ac72b3e97655373d9bb419202828d0d440d69a6"), looks := false }, kinds := [], alts := [], laidByText := true, laidKinds := [.data], laidTests := true, laidLooks := .later }
def FnExactDarkestTimeCardSaid : Prop := Claim7.holds Tryd.pinned (.plain (OpenSpec.ofChange fnExactDarkestTimeSpec)) fnExactDarkestTimeCard

/-- THE TIED CARD OF 'laws.FnExactMinuteChanges'. -/
def fnExactMinuteChangesCard : Claim7 := { stood := { row := fnExactMinuteChangesRow, standIns := [], harness := (true, "bc08d2c7b479348e7aeebb806ac72b3e97655373d9bb419202828d0d440d69a6"), looks := false }, kinds := [], alts := [], laidByText := true, laidKinds := [.data], laidTests := true, laidLooks := .later }
def FnExactMinuteChangesCardSaid : Prop := Claim7.holds Tryd.pinned (.plain (OpenSpec.ofChange fnExactMinuteChangesSpec)) fnExactMinuteChangesCard

/-- THE TIED CARD OF 'laws.FnExactTimesLike'. -/
def fnExactTimesLikeCard : Claim7 := { stood := { row := fnExactTimesLikeRow, standIns := [], harness := (true, "bc08d2c7b479348e7aeebb806ac72b3e97655373d9bb419202828d0d440d69a6"), looks := false }, kinds := [], alts := [], laidByText := true, laidKinds := [.data], laidTests := true, laidLooks := .later }
def FnExactTimesLikeCardSaid : Prop := Claim7.holds Tryd.pinned (.plain (OpenSpec.ofChange fnExactTimesLikeSpec)) fnExactTimesLikeCard

/-- THE TIED CARD OF 'laws.FnExactTimesOfBars'. -/
def fnExactTimesOfBarsCard : Claim7 := { stood := { row := fnExactTimesOfBarsRow, standIns := [], harness := (true, "bc08d2c7b479348e7aeebb806ac72b3e97655373d9bb419202828d0d440d69a6"), looks := false }, kinds := [], alts := [], laidByText := true, laidKinds := [.data], laidTests := true, laidLooks := .later }
def FnExactTimesOfBarsCardSaid : Prop := Claim7.holds Tryd.pinned (.plain (OpenSpec.ofChange fnExactTimesOfBarsSpec)) fnExactTimesOfBarsCard

/-- THE SECOND FORM's CARD OF 'laws.FnExactWaitForMirror'. -/
def fnExactWaitForMirrorUptoCard : Claim7 := { stood := { row := fnExactWaitForMirrorUptoRow, standIns := [], harness := (true, "bc08d2c7b479348e7aeebb806ac72b3e97655373d9bb419202828d0d440d69a6"), looks := false }, kinds := [], alts := [], laidByText := true, laidKinds := [.data], laidTests := true, laidLooks := .later }
def FnExactWaitForMirrorUptoCardSaid : Prop := Claim7.holds Tryd.pinned (.plain (OpenSpec.upto fnExactWaitForMirrorSpec)) fnExactWaitForMirrorUptoCard

/-- THE SECOND FORM's CARD OF 'laws.FnExactApartInMirror'. -/
def fnExactApartInMirrorUptoCard : Claim7 := { stood := { row := fnExactApartInMirrorUptoRow, standIns := [], harness := (true, "bc08d2c7b479348e7aeebb806ac72b3e97655373d9bb419202828d0d440d69a6"), looks := false }, kinds := [], alts := [], laidByText := true, laidKinds := [.data], laidTests := true, laidLooks := .later }
def FnExactApartInMirrorUptoCardSaid : Prop := Claim7.holds Tryd.pinned (.plain (OpenSpec.upto fnExactApartInMirrorSpec)) fnExactApartInMirrorUptoCard

/-- THE SECOND FORM's CARD OF 'laws.FnExactLitAt'. -/
def fnExactLitAtUptoCard : Claim7 := { stood := { row := fnExactLitAtUptoRow, standIns := [], harness := (true, "bc08d2c7b479348e7aeebb806ac72b3e97655373d9bb419202828d0d440d69a6"), looks := false }, kinds := [], alts := [], laidByText := true, laidKinds := [.data], laidTests := true, laidLooks := .later }
def FnExactLitAtUptoCardSaid : Prop := Claim7.holds Tryd.pinned (.plain (OpenSpec.upto fnExactLitAtSpec)) fnExactLitAtUptoCard

/-- THE SECOND FORM's CARD OF 'laws.FnExactBrightestTime'. -/
def fnExactBrightestTimeUptoCard : Claim7 := { stood := { row := fnExactBrightestTimeUptoRow, standIns := [], harness := (true, "bc08d2c7b479348e7aeebb806ac72b3e97655373d9bb419202828d0d440d69a6"), looks := false }, kinds := [], alts := [], laidByText := true, laidKinds := [.data], laidTests := true, laidLooks := .later }
def FnExactBrightestTimeUptoCardSaid : Prop := Claim7.holds Tryd.pinned (.plain (OpenSpec.upto fnExactBrightestTimeSpec)) fnExactBrightestTimeUptoCard

/-- THE SECOND FORM's CARD OF 'laws.FnExactDarkestTime'. -/
def fnExactDarkestTimeUptoCard : Claim7 := { stood := { row := fnExactDarkestTimeUptoRow, standIns := [], harness := (true, "bc08d2c7b479348e7aeebb806ac72b3e97655373d9bb419202828d0d440d69a6"), looks := false }, kinds := [], alts := [], laidByText := true, laidKinds := [.data], laidTests := true, laidLooks := .later }
def FnExactDarkestTimeUptoCardSaid : Prop := Claim7.holds Tryd.pinned (.plain (OpenSpec.upto fnExactDarkestTimeSpec)) fnExactDarkestTimeUptoCard

/-- THE SECOND FORM's CARD OF 'laws.FnExactMinuteChanges'. -/
def fnExactMinuteChangesUptoCard : Claim7 := { stood := { row := fnExactMinuteChangesUptoRow, standIns := [], harness := (true, "bc08d2c7b479348e7aeebb806ac72b3e97655373d9bb419202828d0d440d69a6"), looks := false }, kinds := [], alts := [], laidByText := true, laidKinds := [.data], laidTests := true, laidLooks := .later }
def FnExactMinuteChangesUptoCardSaid : Prop := Claim7.holds Tryd.pinned (.plain (OpenSpec.upto fnExactMinuteChangesSpec)) fnExactMinuteChangesUptoCard

/-- THE SECOND FORM's CARD OF 'laws.FnExactTimesLike'. -/
def fnExactTimesLikeUptoCard : Claim7 := { stood := { row := fnExactTimesLikeUptoRow, standIns := [], harness := (true, "bc08d2c7b479348e7aeebb806ac72b3e97655373d9bb419202828d0d440d69a6"), looks := false }, kinds := [], alts := [], laidByText := true, laidKinds := [.data], laidTests := true, laidLooks := .later }
def FnExactTimesLikeUptoCardSaid : Prop := Claim7.holds Tryd.pinned (.plain (OpenSpec.upto fnExactTimesLikeSpec)) fnExactTimesLikeUptoCard

/-- THE SECOND FORM's CARD OF 'laws.FnExactTimesOfBars'. -/
def fnExactTimesOfBarsUptoCard : Claim7 := { stood := { row := fnExactTimesOfBarsUptoRow, standIns := [], harness := (true, "bc08d2c7b479348e7aeebb806ac72b3e97655373d9bb419202828d0d440d69a6"), looks := false }, kinds := [], alts := [], laidByText := true, laidKinds := [.data], laidTests := true, laidLooks := .later }
def FnExactTimesOfBarsUptoCardSaid : Prop := Claim7.holds Tryd.pinned (.plain (OpenSpec.upto fnExactTimesOfBarsSpec)) fnExactTimesOfBarsUptoCard
end Rows
end Go.Proofs.YtdlckhdalbagmabDoor
