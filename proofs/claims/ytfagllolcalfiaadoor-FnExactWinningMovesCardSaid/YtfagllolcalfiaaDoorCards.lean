/-
  DERIVED. GIVEN WITH THE SEED: THE CARDS: each row of YtfagllolcalfiaaDoorRows.lean that lists a variable, with what it lists TIED to the program's text (the seventh form; the later family's looks); each row that meets fmt, with fmt's text TOLD by the authors' own Lean function (tested against real Go, not proved from fmt's source: count such statements apart). THE CARD IS WHAT COUNTS. Prove the row's statement (the work); the ties are given (YtfagllolcalfiaaDoorTie.lean); close each card by the builder's one call (the guide's Derived/Test/ToyasCard.lean, 'card_holds'). Laid BY PROGRAM, IN A SANDBOX (cutbox-door.mjs). By AI agents, Wed Nov 11 2026. No macro, syntax, notation, axiom, sorry.
-/
import Derived.Test.YtfagllolcalfiaaDoorRows
import GoSem.ClaimSeven
namespace Go.Proofs.YtfagllolcalfiaaDoor
namespace Rows

/-- THE TIED CARD OF 'laws.FnLighting'. -/
def fnLightingCard : Claim7 := { stood := { row := fnLightingRow, standIns := [], harness := (true, "05e8760254fbd93f690a46e2035bb0ee838c74359dbf39c9f41ae51ae850cc3d"), looks := false }, kinds := [], alts := [], laidByText := true, laidKinds := [.data], laidTests := true, laidLooks := .later }
def FnLightingCardSaid : Prop := Claim7.holds Tryd.pinned (.plain (OpenSpec.ofChange fnLightingSpec)) fnLightingCard

/-- THE TIED CARD OF 'laws.FnExactIsGoal'. -/
def fnExactIsGoalCard : Claim7 := { stood := { row := fnExactIsGoalRow, standIns := [], harness := (true, "05e8760254fbd93f690a46e2035bb0ee838c74359dbf39c9f41ae51ae850cc3d"), looks := false }, kinds := [], alts := [], laidByText := true, laidKinds := [.data], laidTests := true, laidLooks := .later }
def FnExactIsGoalCardSaid : Prop := Claim7.holds Tryd.pinned (.plain (OpenSpec.ofChange fnExactIsGoalSpec)) fnExactIsGoalCard

/-- THE TIED CARD OF 'laws.FnExactIsOnWay'. -/
def fnExactIsOnWayCard : Claim7 := { stood := { row := fnExactIsOnWayRow, standIns := [], harness := (true, "05e8760254fbd93f690a46e2035bb0ee838c74359dbf39c9f41ae51ae850cc3d"), looks := false }, kinds := [], alts := [], laidByText := true, laidKinds := [.data], laidTests := true, laidLooks := .later }
def FnExactIsOnWayCardSaid : Prop := Claim7.holds Tryd.pinned (.plain (OpenSpec.ofChange fnExactIsOnWaySpec)) fnExactIsOnWayCard

/-- THE TIED CARD OF 'laws.FnExactLightableBars'. -/
def fnExactLightableBarsCard : Claim7 := { stood := { row := fnExactLightableBarsRow, standIns := [], harness := (true, "05e8760254fbd93f690a46e2035bb0ee838c74359dbf39c9f41ae51ae850cc3d"), looks := false }, kinds := [], alts := [], laidByText := true, laidKinds := [.data], laidTests := true, laidLooks := .later }
def FnExactLightableBarsCardSaid : Prop := Claim7.holds Tryd.pinned (.plain (OpenSpec.ofChange fnExactLightableBarsSpec)) fnExactLightableBarsCard

/-- THE TIED CARD OF 'laws.FnExactCellNumber'. -/
def fnExactCellNumberCard : Claim7 := { stood := { row := fnExactCellNumberRow, standIns := [], harness := (true, "05e8760254fbd93f690a46e2035bb0ee838c74359dbf39c9f41ae51ae850cc3d"), looks := false }, kinds := [], alts := [], laidByText := true, laidKinds := [.data], laidTests := true, laidLooks := .later }
def FnExactCellNumberCardSaid : Prop := Claim7.holds Tryd.pinned (.plain (OpenSpec.ofChange fnExactCellNumberSpec)) fnExactCellNumberCard

/-- THE TIED CARD OF 'laws.FnExactLightWins'. -/
def fnExactLightWinsCard : Claim7 := { stood := { row := fnExactLightWinsRow, standIns := [], harness := (true, "05e8760254fbd93f690a46e2035bb0ee838c74359dbf39c9f41ae51ae850cc3d"), looks := false }, kinds := [], alts := [], laidByText := true, laidKinds := [.data], laidTests := true, laidLooks := .later }
def FnExactLightWinsCardSaid : Prop := Claim7.holds Tryd.pinned (.plain (OpenSpec.ofChange fnExactLightWinsSpec)) fnExactLightWinsCard

/-- THE TIED CARD OF 'laws.FnExactWinningMoves'. -/
def fnExactWinningMovesCard : Claim7 := { stood := { row := fnExactWinningMovesRow, standIns := [], harness := (true, "05e8760254fbd93f690a46e2035bb0ee838c74359dbf39c9f41ae51ae850cc3d"), looks := false }, kinds := [], alts := [], laidByText := true, laidKinds := [.data], laidTests := true, laidLooks := .later }
def FnExactWinningMovesCardSaid : Prop := Claim7.holds Tryd.pinned (.plain (OpenSpec.ofChange fnExactWinningMovesSpec)) fnExactWinningMovesCard

/-- THE TIED CARD OF 'laws.FnExactMissWins'. -/
def fnExactMissWinsCard : Claim7 := { stood := { row := fnExactMissWinsRow, standIns := [], harness := (true, "05e8760254fbd93f690a46e2035bb0ee838c74359dbf39c9f41ae51ae850cc3d"), looks := false }, kinds := [], alts := [], laidByText := true, laidKinds := [.data], laidTests := true, laidLooks := .later }
def FnExactMissWinsCardSaid : Prop := Claim7.holds Tryd.pinned (.plain (OpenSpec.ofChange fnExactMissWinsSpec)) fnExactMissWinsCard

/-- THE TIED CARD OF 'laws.FnExactRaceWins'. -/
def fnExactRaceWinsCard : Claim7 := { stood := { row := fnExactRaceWinsRow, standIns := [], harness := (true, "05e8760254fbd93f690a46e2035bb0ee838c74359dbf39c9f41ae51ae850cc3d"), looks := false }, kinds := [], alts := [], laidByText := true, laidKinds := [.data], laidTests := true, laidLooks := .later }
def FnExactRaceWinsCardSaid : Prop := Claim7.holds Tryd.pinned (.plain (OpenSpec.ofChange fnExactRaceWinsSpec)) fnExactRaceWinsCard

/-- THE TIED CARD OF 'laws.FnExactLongestPlay'. -/
def fnExactLongestPlayCard : Claim7 := { stood := { row := fnExactLongestPlayRow, standIns := [], harness := (true, "05e8760254fbd93f690a46e2035bb0ee838c74359dbf39c9f41ae51ae850cc3d"), looks := false }, kinds := [], alts := [], laidByText := true, laidKinds := [.data], laidTests := true, laidLooks := .later }
def FnExactLongestPlayCardSaid : Prop := Claim7.holds Tryd.pinned (.plain (OpenSpec.ofChange fnExactLongestPlaySpec)) fnExactLongestPlayCard

/-- THE TIED CARD OF 'laws.FnExactShortestPlay'. -/
def fnExactShortestPlayCard : Claim7 := { stood := { row := fnExactShortestPlayRow, standIns := [], harness := (true, "05e8760254fbd93f690a46e2035bb0ee838c74359dbf39c9f41ae51ae850cc3d"), looks := false }, kinds := [], alts := [], laidByText := true, laidKinds := [.data], laidTests := true, laidLooks := .later }
def FnExactShortestPlayCardSaid : Prop := Claim7.holds Tryd.pinned (.plain (OpenSpec.ofChange fnExactShortestPlaySpec)) fnExactShortestPlayCard

/-- THE TIED CARD OF 'laws.FnExactCountPlays'. -/
def fnExactCountPlaysCard : Claim7 := { stood := { row := fnExactCountPlaysRow, standIns := [], harness := (true, "05e8760254fbd93f690a46e2035bb0ee838c74359dbf39c9f41ae51ae850cc3d"), looks := false }, kinds := [], alts := [], laidByText := true, laidKinds := [.data], laidTests := true, laidLooks := .later }
def FnExactCountPlaysCardSaid : Prop := Claim7.holds Tryd.pinned (.plain (OpenSpec.ofChange fnExactCountPlaysSpec)) fnExactCountPlaysCard

/-- THE SECOND FORM's CARD OF 'laws.FnLighting'. -/
def fnLightingUptoCard : Claim7 := { stood := { row := fnLightingUptoRow, standIns := [], harness := (true, "05e8760254fbd93f690a46e2035bb0ee838c74359dbf39c9f41ae51ae850cc3d"), looks := false }, kinds := [], alts := [], laidByText := true, laidKinds := [.data], laidTests := true, laidLooks := .later }
def FnLightingUptoCardSaid : Prop := Claim7.holds Tryd.pinned (.plain (OpenSpec.upto fnLightingSpec)) fnLightingUptoCard

/-- THE SECOND FORM's CARD OF 'laws.FnExactIsGoal'. -/
def fnExactIsGoalUptoCard : Claim7 := { stood := { row := fnExactIsGoalUptoRow, standIns := [], harness := (true, "05e8760254fbd93f690a46e2035bb0ee838c74359dbf39c9f41ae51ae850cc3d"), looks := false }, kinds := [], alts := [], laidByText := true, laidKinds := [.data], laidTests := true, laidLooks := .later }
def FnExactIsGoalUptoCardSaid : Prop := Claim7.holds Tryd.pinned (.plain (OpenSpec.upto fnExactIsGoalSpec)) fnExactIsGoalUptoCard

/-- THE SECOND FORM's CARD OF 'laws.FnExactIsOnWay'. -/
def fnExactIsOnWayUptoCard : Claim7 := { stood := { row := fnExactIsOnWayUptoRow, standIns := [], harness := (true, "05e8760254fbd93f690a46e2035bb0ee838c74359dbf39c9f41ae51ae850cc3d"), looks := false }, kinds := [], alts := [], laidByText := true, laidKinds := [.data], laidTests := true, laidLooks := .later }
def FnExactIsOnWayUptoCardSaid : Prop := Claim7.holds Tryd.pinned (.plain (OpenSpec.upto fnExactIsOnWaySpec)) fnExactIsOnWayUptoCard

/-- THE SECOND FORM's CARD OF 'laws.FnExactLightableBars'. -/
def fnExactLightableBarsUptoCard : Claim7 := { stood := { row := fnExactLightableBarsUptoRow, standIns := [], harness := (true, "05e8760254fbd93f690a46e2035bb0ee838c74359dbf39c9f41ae51ae850cc3d"), looks := false }, kinds := [], alts := [], laidByText := true, laidKinds := [.data], laidTests := true, laidLooks := .later }
def FnExactLightableBarsUptoCardSaid : Prop := Claim7.holds Tryd.pinned (.plain (OpenSpec.upto fnExactLightableBarsSpec)) fnExactLightableBarsUptoCard

/-- THE SECOND FORM's CARD OF 'laws.FnExactCellNumber'. -/
def fnExactCellNumberUptoCard : Claim7 := { stood := { row := fnExactCellNumberUptoRow, standIns := [], harness := (true, "05e8760254fbd93f690a46e2035bb0ee838c74359dbf39c9f41ae51ae850cc3d"), looks := false }, kinds := [], alts := [], laidByText := true, laidKinds := [.data], laidTests := true, laidLooks := .later }
def FnExactCellNumberUptoCardSaid : Prop := Claim7.holds Tryd.pinned (.plain (OpenSpec.upto fnExactCellNumberSpec)) fnExactCellNumberUptoCard

/-- THE SECOND FORM's CARD OF 'laws.FnExactLightWins'. -/
def fnExactLightWinsUptoCard : Claim7 := { stood := { row := fnExactLightWinsUptoRow, standIns := [], harness := (true, "05e8760254fbd93f690a46e2035bb0ee838c74359dbf39c9f41ae51ae850cc3d"), looks := false }, kinds := [], alts := [], laidByText := true, laidKinds := [.data], laidTests := true, laidLooks := .later }
def FnExactLightWinsUptoCardSaid : Prop := Claim7.holds Tryd.pinned (.plain (OpenSpec.upto fnExactLightWinsSpec)) fnExactLightWinsUptoCard

/-- THE SECOND FORM's CARD OF 'laws.FnExactWinningMoves'. -/
def fnExactWinningMovesUptoCard : Claim7 := { stood := { row := fnExactWinningMovesUptoRow, standIns := [], harness := (true, "05e8760254fbd93f690a46e2035bb0ee838c74359dbf39c9f41ae51ae850cc3d"), looks := false }, kinds := [], alts := [], laidByText := true, laidKinds := [.data], laidTests := true, laidLooks := .later }
def FnExactWinningMovesUptoCardSaid : Prop := Claim7.holds Tryd.pinned (.plain (OpenSpec.upto fnExactWinningMovesSpec)) fnExactWinningMovesUptoCard

/-- THE SECOND FORM's CARD OF 'laws.FnExactMissWins'. -/
def fnExactMissWinsUptoCard : Claim7 := { stood := { row := fnExactMissWinsUptoRow, standIns := [], harness := (true, "05e8760254fbd93f690a46e2035bb0ee838c74359dbf39c9f41ae51ae850cc3d"), looks := false }, kinds := [], alts := [], laidByText := true, laidKinds := [.data], laidTests := true, laidLooks := .later }
def FnExactMissWinsUptoCardSaid : Prop := Claim7.holds Tryd.pinned (.plain (OpenSpec.upto fnExactMissWinsSpec)) fnExactMissWinsUptoCard

/-- THE SECOND FORM's CARD OF 'laws.FnExactRaceWins'. -/
def fnExactRaceWinsUptoCard : Claim7 := { stood := { row := fnExactRaceWinsUptoRow, standIns := [], harness := (true, "05e8760254fbd93f690a46e2035bb0ee838c74359dbf39c9f41ae51ae850cc3d"), looks := false }, kinds := [], alts := [], laidByText := true, laidKinds := [.data], laidTests := true, laidLooks := .later }
def FnExactRaceWinsUptoCardSaid : Prop := Claim7.holds Tryd.pinned (.plain (OpenSpec.upto fnExactRaceWinsSpec)) fnExactRaceWinsUptoCard

/-- THE SECOND FORM's CARD OF 'laws.FnExactLongestPlay'. -/
def fnExactLongestPlayUptoCard : Claim7 := { stood := { row := fnExactLongestPlayUptoRow, standIns := [], harness := (true, "05e8760254fbd93f690a46e2035bb0ee838c74359dbf39c9f41ae51ae850cc3d"), looks := false }, kinds := [], alts := [], laidByText := true, laidKinds := [.data], laidTests := true, laidLooks := .later }
def FnExactLongestPlayUptoCardSaid : Prop := Claim7.holds Tryd.pinned (.plain (OpenSpec.upto fnExactLongestPlaySpec)) fnExactLongestPlayUptoCard

/-- THE SECOND FORM's CARD OF 'laws.FnExactShortestPlay'. -/
def fnExactShortestPlayUptoCard : Claim7 := { stood := { row := fnExactShortestPlayUptoRow, standIns := [], harness := (true, "05e8760254fbd93f690a46e2035bb0ee838c74359dbf39c9f41ae51ae850cc3d"), looks := false }, kinds := [], alts := [], laidByText := true, laidKinds := [.data], laidTests := true, laidLooks := .later }
def FnExactShortestPlayUptoCardSaid : Prop := Claim7.holds Tryd.pinned (.plain (OpenSpec.upto fnExactShortestPlaySpec)) fnExactShortestPlayUptoCard

/-- THE SECOND FORM's CARD OF 'laws.FnExactCountPlays'. -/
def fnExactCountPlaysUptoCard : Claim7 := { stood := { row := fnExactCountPlaysUptoRow, standIns := [], harness := (true, "05e8760254fbd93f690a46e2035bb0ee838c74359dbf39c9f41ae51ae850cc3d"), looks := false }, kinds := [], alts := [], laidByText := true, laidKinds := [.data], laidTests := true, laidLooks := .later }
def FnExactCountPlaysUptoCardSaid : Prop := Claim7.holds Tryd.pinned (.plain (OpenSpec.upto fnExactCountPlaysSpec)) fnExactCountPlaysUptoCard
end Rows
end Go.Proofs.YtfagllolcalfiaaDoor
