/-
  DERIVED. GIVEN WITH THE SEED: THE CARDS: each row of YtdlckhdalbagmaaDoorRows.lean that lists a variable, with what it lists TIED to the program's text (the seventh form; the later family's looks); each row that meets fmt, with fmt's text TOLD by the authors' own Lean function (tested against real Go, not proved from fmt's source: count such statements apart). THE CARD IS WHAT COUNTS. Prove the row's statement (the work); the ties are given (YtdlckhdalbagmaaDoorTie.lean); close each card by the builder's one call (the guide's Derived/Test/ToyasCard.lean, 'card_holds'). Laid BY PROGRAM, IN A SANDBOX (cutbox-door.mjs). By AI agents, Wed Nov 11 2026. No macro, syntax, notation, axiom, sorry.
-/
import Derived.Test.YtdlckhdalbagmaaDoorRows
import GoSem.ClaimSeven
namespace Go.Proofs.YtdlckhdalbagmaaDoor
namespace Rows

/-- THE TIED CARD OF 'laws.FnCounters'. -/
def fnCountersCard : Claim7 := { stood := { row := fnCountersRow, standIns := [], harness := (true, "954539dbe2f8bfca7bc6750f3c581736a658c137939a8b78745e8098cb90db74"), looks := false }, kinds := [], alts := [], laidByText := true, laidKinds := [.data], laidTests := true, laidLooks := .later }
def FnCountersCardSaid : Prop := Claim7.holds Tryd.pinned (.plain (OpenSpec.ofChange fnCountersSpec)) fnCountersCard

/-- THE TIED CARD OF 'laws.FnClocks'. -/
def fnClocksCard : Claim7 := { stood := { row := fnClocksRow, standIns := [], harness := (true, "954539dbe2f8bfca7bc6750f3c581736a658c137939a8b78745e8098cb90db74"), looks := false }, kinds := [], alts := [], laidByText := true, laidKinds := [.data], laidTests := true, laidLooks := .later }
def FnClocksCardSaid : Prop := Claim7.holds Tryd.pinned (.plain (OpenSpec.ofChange fnClocksSpec)) fnClocksCard

/-- THE TIED CARD OF 'laws.FnClockLights'. -/
def fnClockLightsCard : Claim7 := { stood := { row := fnClockLightsRow, standIns := [], harness := (true, "954539dbe2f8bfca7bc6750f3c581736a658c137939a8b78745e8098cb90db74"), looks := false }, kinds := [], alts := [], laidByText := true, laidKinds := [.data], laidTests := true, laidLooks := .later }
def FnClockLightsCardSaid : Prop := Claim7.holds Tryd.pinned (.plain (OpenSpec.ofChange fnClockLightsSpec)) fnClockLightsCard

/-- THE TIED CARD OF 'laws.FnExactStepChanges'. -/
def fnExactStepChangesCard : Claim7 := { stood := { row := fnExactStepChangesRow, standIns := [], harness := (true, "954539dbe2f8bfca7bc6750f3c581736a658c137939a8b78745e8098cb90db74"), looks := false }, kinds := [], alts := [], laidByText := true, laidKinds := [.data], laidTests := true, laidLooks := .later }
def FnExactStepChangesCardSaid : Prop := Claim7.holds Tryd.pinned (.plain (OpenSpec.ofChange fnExactStepChangesSpec)) fnExactStepChangesCard

/-- THE TIED CARD OF 'laws.FnExactRunChanges'. -/
def fnExactRunChangesCard : Claim7 := { stood := { row := fnExactRunChangesRow, standIns := [], harness := (true, "954539dbe2f8bfca7bc6750f3c581736a658c137939a8b78745e8098cb90db74"), looks := false }, kinds := [], alts := [], laidByText := true, laidKinds := [.data], laidTests := true, laidLooks := .later }
def FnExactRunChangesCardSaid : Prop := Claim7.holds Tryd.pinned (.plain (OpenSpec.ofChange fnExactRunChangesSpec)) fnExactRunChangesCard

/-- THE TIED CARD OF 'laws.FnExactClockRow'. -/
def fnExactClockRowCard : Claim7 := { stood := { row := fnExactClockRowRow, standIns := [], harness := (true, "954539dbe2f8bfca7bc6750f3c581736a658c137939a8b78745e8098cb90db74"), looks := false }, kinds := [], alts := [], laidByText := true, laidKinds := [.data], laidTests := true, laidLooks := .later }
def FnExactClockRowCardSaid : Prop := Claim7.holds Tryd.pinned (.plain (OpenSpec.ofChange fnExactClockRowSpec)) fnExactClockRowCard

/-- THE TIED CARD OF 'laws.FnExactTimeOfRow'. -/
def fnExactTimeOfRowCard : Claim7 := { stood := { row := fnExactTimeOfRowRow, standIns := [], harness := (true, "954539dbe2f8bfca7bc6750f3c581736a658c137939a8b78745e8098cb90db74"), looks := false }, kinds := [], alts := [], laidByText := true, laidKinds := [.data], laidTests := true, laidLooks := .later }
def FnExactTimeOfRowCardSaid : Prop := Claim7.holds Tryd.pinned (.plain (OpenSpec.ofChange fnExactTimeOfRowSpec)) fnExactTimeOfRowCard

/-- THE TIED CARD OF 'laws.FnExactMirrorTime'. -/
def fnExactMirrorTimeCard : Claim7 := { stood := { row := fnExactMirrorTimeRow, standIns := [], harness := (true, "954539dbe2f8bfca7bc6750f3c581736a658c137939a8b78745e8098cb90db74"), looks := false }, kinds := [], alts := [], laidByText := true, laidKinds := [.data], laidTests := true, laidLooks := .later }
def FnExactMirrorTimeCardSaid : Prop := Claim7.holds Tryd.pinned (.plain (OpenSpec.ofChange fnExactMirrorTimeSpec)) fnExactMirrorTimeCard

/-- THE TIED CARD OF 'laws.FnExactTurnTime'. -/
def fnExactTurnTimeCard : Claim7 := { stood := { row := fnExactTurnTimeRow, standIns := [], harness := (true, "954539dbe2f8bfca7bc6750f3c581736a658c137939a8b78745e8098cb90db74"), looks := false }, kinds := [], alts := [], laidByText := true, laidKinds := [.data], laidTests := true, laidLooks := .later }
def FnExactTurnTimeCardSaid : Prop := Claim7.holds Tryd.pinned (.plain (OpenSpec.ofChange fnExactTurnTimeSpec)) fnExactTurnTimeCard

/-- THE TIED CARD OF 'laws.FnExactSameInMirror'. -/
def fnExactSameInMirrorCard : Claim7 := { stood := { row := fnExactSameInMirrorRow, standIns := [], harness := (true, "954539dbe2f8bfca7bc6750f3c581736a658c137939a8b78745e8098cb90db74"), looks := false }, kinds := [], alts := [], laidByText := true, laidKinds := [.data], laidTests := true, laidLooks := .later }
def FnExactSameInMirrorCardSaid : Prop := Claim7.holds Tryd.pinned (.plain (OpenSpec.ofChange fnExactSameInMirrorSpec)) fnExactSameInMirrorCard

/-- THE TIED CARD OF 'laws.FnExactSameTurned'. -/
def fnExactSameTurnedCard : Claim7 := { stood := { row := fnExactSameTurnedRow, standIns := [], harness := (true, "954539dbe2f8bfca7bc6750f3c581736a658c137939a8b78745e8098cb90db74"), looks := false }, kinds := [], alts := [], laidByText := true, laidKinds := [.data], laidTests := true, laidLooks := .later }
def FnExactSameTurnedCardSaid : Prop := Claim7.holds Tryd.pinned (.plain (OpenSpec.ofChange fnExactSameTurnedSpec)) fnExactSameTurnedCard

/-- THE TIED CARD OF 'laws.FnExactMirrorPairs'. -/
def fnExactMirrorPairsCard : Claim7 := { stood := { row := fnExactMirrorPairsRow, standIns := [], harness := (true, "954539dbe2f8bfca7bc6750f3c581736a658c137939a8b78745e8098cb90db74"), looks := false }, kinds := [], alts := [], laidByText := true, laidKinds := [.data], laidTests := true, laidLooks := .later }
def FnExactMirrorPairsCardSaid : Prop := Claim7.holds Tryd.pinned (.plain (OpenSpec.ofChange fnExactMirrorPairsSpec)) fnExactMirrorPairsCard

/-- THE SECOND FORM's CARD OF 'laws.FnCounters'. -/
def fnCountersUptoCard : Claim7 := { stood := { row := fnCountersUptoRow, standIns := [], harness := (true, "954539dbe2f8bfca7bc6750f3c581736a658c137939a8b78745e8098cb90db74"), looks := false }, kinds := [], alts := [], laidByText := true, laidKinds := [.data], laidTests := true, laidLooks := .later }
def FnCountersUptoCardSaid : Prop := Claim7.holds Tryd.pinned (.plain (OpenSpec.upto fnCountersSpec)) fnCountersUptoCard

/-- THE SECOND FORM's CARD OF 'laws.FnClocks'. -/
def fnClocksUptoCard : Claim7 := { stood := { row := fnClocksUptoRow, standIns := [], harness := (true, "954539dbe2f8bfca7bc6750f3c581736a658c137939a8b78745e8098cb90db74"), looks := false }, kinds := [], alts := [], laidByText := true, laidKinds := [.data], laidTests := true, laidLooks := .later }
def FnClocksUptoCardSaid : Prop := Claim7.holds Tryd.pinned (.plain (OpenSpec.upto fnClocksSpec)) fnClocksUptoCard

/-- THE SECOND FORM's CARD OF 'laws.FnClockLights'. -/
def fnClockLightsUptoCard : Claim7 := { stood := { row := fnClockLightsUptoRow, standIns := [], harness := (true, "954539dbe2f8bfca7bc6750f3c581736a658c137939a8b78745e8098cb90db74"), looks := false }, kinds := [], alts := [], laidByText := true, laidKinds := [.data], laidTests := true, laidLooks := .later }
def FnClockLightsUptoCardSaid : Prop := Claim7.holds Tryd.pinned (.plain (OpenSpec.upto fnClockLightsSpec)) fnClockLightsUptoCard

/-- THE SECOND FORM's CARD OF 'laws.FnExactStepChanges'. -/
def fnExactStepChangesUptoCard : Claim7 := { stood := { row := fnExactStepChangesUptoRow, standIns := [], harness := (true, "954539dbe2f8bfca7bc6750f3c581736a658c137939a8b78745e8098cb90db74"), looks := false }, kinds := [], alts := [], laidByText := true, laidKinds := [.data], laidTests := true, laidLooks := .later }
def FnExactStepChangesUptoCardSaid : Prop := Claim7.holds Tryd.pinned (.plain (OpenSpec.upto fnExactStepChangesSpec)) fnExactStepChangesUptoCard

/-- THE SECOND FORM's CARD OF 'laws.FnExactRunChanges'. -/
def fnExactRunChangesUptoCard : Claim7 := { stood := { row := fnExactRunChangesUptoRow, standIns := [], harness := (true, "954539dbe2f8bfca7bc6750f3c581736a658c137939a8b78745e8098cb90db74"), looks := false }, kinds := [], alts := [], laidByText := true, laidKinds := [.data], laidTests := true, laidLooks := .later }
def FnExactRunChangesUptoCardSaid : Prop := Claim7.holds Tryd.pinned (.plain (OpenSpec.upto fnExactRunChangesSpec)) fnExactRunChangesUptoCard

/-- THE SECOND FORM's CARD OF 'laws.FnExactClockRow'. -/
def fnExactClockRowUptoCard : Claim7 := { stood := { row := fnExactClockRowUptoRow, standIns := [], harness := (true, "954539dbe2f8bfca7bc6750f3c581736a658c137939a8b78745e8098cb90db74"), looks := false }, kinds := [], alts := [], laidByText := true, laidKinds := [.data], laidTests := true, laidLooks := .later }
def FnExactClockRowUptoCardSaid : Prop := Claim7.holds Tryd.pinned (.plain (OpenSpec.upto fnExactClockRowSpec)) fnExactClockRowUptoCard

/-- THE SECOND FORM's CARD OF 'laws.FnExactTimeOfRow'. -/
def fnExactTimeOfRowUptoCard : Claim7 := { stood := { row := fnExactTimeOfRowUptoRow, standIns := [], harness := (true, "954539dbe2f8bfca7bc6750f3c581736a658c137939a8b78745e8098cb90db74"), looks := false }, kinds := [], alts := [], laidByText := true, laidKinds := [.data], laidTests := true, laidLooks := .later }
def FnExactTimeOfRowUptoCardSaid : Prop := Claim7.holds Tryd.pinned (.plain (OpenSpec.upto fnExactTimeOfRowSpec)) fnExactTimeOfRowUptoCard

/-- THE SECOND FORM's CARD OF 'laws.FnExactMirrorTime'. -/
def fnExactMirrorTimeUptoCard : Claim7 := { stood := { row := fnExactMirrorTimeUptoRow, standIns := [], harness := (true, "954539dbe2f8bfca7bc6750f3c581736a658c137939a8b78745e8098cb90db74"), looks := false }, kinds := [], alts := [], laidByText := true, laidKinds := [.data], laidTests := true, laidLooks := .later }
def FnExactMirrorTimeUptoCardSaid : Prop := Claim7.holds Tryd.pinned (.plain (OpenSpec.upto fnExactMirrorTimeSpec)) fnExactMirrorTimeUptoCard

/-- THE SECOND FORM's CARD OF 'laws.FnExactTurnTime'. -/
def fnExactTurnTimeUptoCard : Claim7 := { stood := { row := fnExactTurnTimeUptoRow, standIns := [], harness := (true, "954539dbe2f8bfca7bc6750f3c581736a658c137939a8b78745e8098cb90db74"), looks := false }, kinds := [], alts := [], laidByText := true, laidKinds := [.data], laidTests := true, laidLooks := .later }
def FnExactTurnTimeUptoCardSaid : Prop := Claim7.holds Tryd.pinned (.plain (OpenSpec.upto fnExactTurnTimeSpec)) fnExactTurnTimeUptoCard

/-- THE SECOND FORM's CARD OF 'laws.FnExactSameInMirror'. -/
def fnExactSameInMirrorUptoCard : Claim7 := { stood := { row := fnExactSameInMirrorUptoRow, standIns := [], harness := (true, "954539dbe2f8bfca7bc6750f3c581736a658c137939a8b78745e8098cb90db74"), looks := false }, kinds := [], alts := [], laidByText := true, laidKinds := [.data], laidTests := true, laidLooks := .later }
def FnExactSameInMirrorUptoCardSaid : Prop := Claim7.holds Tryd.pinned (.plain (OpenSpec.upto fnExactSameInMirrorSpec)) fnExactSameInMirrorUptoCard

/-- THE SECOND FORM's CARD OF 'laws.FnExactSameTurned'. -/
def fnExactSameTurnedUptoCard : Claim7 := { stood := { row := fnExactSameTurnedUptoRow, standIns := [], harness := (true, "954539dbe2f8bfca7bc6750f3c581736a658c137939a8b78745e8098cb90db74"), looks := false }, kinds := [], alts := [], laidByText := true, laidKinds := [.data], laidTests := true, laidLooks := .later }
def FnExactSameTurnedUptoCardSaid : Prop := Claim7.holds Tryd.pinned (.plain (OpenSpec.upto fnExactSameTurnedSpec)) fnExactSameTurnedUptoCard

/-- THE SECOND FORM's CARD OF 'laws.FnExactMirrorPairs'. -/
def fnExactMirrorPairsUptoCard : Claim7 := { stood := { row := fnExactMirrorPairsUptoRow, standIns := [], harness := (true, "954539dbe2f8bfca7bc6750f3c581736a658c137939a8b78745e8098cb90db74"), looks := false }, kinds := [], alts := [], laidByText := true, laidKinds := [.data], laidTests := true, laidLooks := .later }
def FnExactMirrorPairsUptoCardSaid : Prop := Claim7.holds Tryd.pinned (.plain (OpenSpec.upto fnExactMirrorPairsSpec)) fnExactMirrorPairsUptoCard
end Rows
end Go.Proofs.YtdlckhdalbagmaaDoor
