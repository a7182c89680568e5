/-
  DERIVED. GIVEN WITH THE SEED: THE CARDS: each row of YtllpdnknaldbaabDoorRows.lean that lists a variable, with what it lists TIED to the program's text (the seventh form; the later family's looks); each row that meets fmt, with fmt's text TOLD by the authors' own Lean function (tested against real Go, not proved from fmt's source: count such statements apart). THE CARD IS WHAT COUNTS. Prove the row's statement (the work); the ties are given (YtllpdnknaldbaabDoorTie.lean); close each card by the builder's one call (the guide's Derived/Test/ToyasCard.lean, 'card_holds'). Laid BY PROGRAM, IN A SANDBOX (cutbox-door.mjs). By AI agents, Wed Nov 11 2026. No macro, syntax, notation, axiom, sorry.
-/
import Derived.Test.YtllpdnknaldbaabDoorRows
import GoSem.ClaimSeven
namespace Go.Proofs.YtllpdnknaldbaabDoor
namespace Rows

/-- THE TIED CARD OF 'laws.FnExactRowOf'. -/
def fnExactRowOfCard : Claim7 := { stood := { row := fnExactRowOfRow, standIns := [], harness := (true, "24ec5872da037fe5082754712fba7b44bfe84ba4626dd321ccdb9d92fec98daa"), looks := false }, kinds := [], alts := [], laidByText := true, laidKinds := [.data, .data, .data, .data], laidTests := true, laidLooks := .later }
def FnExactRowOfCardSaid : Prop := Claim7.holds Tryd.pinned (.plain (OpenSpec.ofChange fnExactRowOfSpec)) fnExactRowOfCard

/-- THE TIED CARD OF 'laws.FnExactTurnedNumber'. -/
def fnExactTurnedNumberCard : Claim7 := { stood := { row := fnExactTurnedNumberRow, standIns := [], harness := (true, "24ec5872da037fe5082754712fba7b44bfe84ba4626dd321ccdb9d92fec98daa"), looks := false }, kinds := [], alts := [], laidByText := true, laidKinds := [.data, .data, .data, .data], laidTests := true, laidLooks := .later }
def FnExactTurnedNumberCardSaid : Prop := Claim7.holds Tryd.pinned (.plain (OpenSpec.ofChange fnExactTurnedNumberSpec)) fnExactTurnedNumberCard

/-- THE TIED CARD OF 'laws.FnExactCountAlike'. -/
def fnExactCountAlikeCard : Claim7 := { stood := { row := fnExactCountAlikeRow, standIns := [], harness := (true, "24ec5872da037fe5082754712fba7b44bfe84ba4626dd321ccdb9d92fec98daa"), looks := false }, kinds := [], alts := [], laidByText := true, laidKinds := [.data, .data, .data, .data], laidTests := true, laidLooks := .later }
def FnExactCountAlikeCardSaid : Prop := Claim7.holds Tryd.pinned (.plain (OpenSpec.ofChange fnExactCountAlikeSpec)) fnExactCountAlikeCard

/-- THE TIED CARD OF 'laws.FnCells'. -/
def fnCellsCard : Claim7 := { stood := { row := fnCellsRow, standIns := [], harness := (true, "24ec5872da037fe5082754712fba7b44bfe84ba4626dd321ccdb9d92fec98daa"), looks := false }, kinds := [], alts := [], laidByText := true, laidKinds := [.data], laidTests := true, laidLooks := .later }
def FnCellsCardSaid : Prop := Claim7.holds Tryd.pinned (.plain (OpenSpec.ofChange fnCellsSpec)) fnCellsCard

/-- THE SECOND FORM's CARD OF 'laws.FnExactRowOf'. -/
def fnExactRowOfUptoCard : Claim7 := { stood := { row := fnExactRowOfUptoRow, standIns := [], harness := (true, "24ec5872da037fe5082754712fba7b44bfe84ba4626dd321ccdb9d92fec98daa"), looks := false }, kinds := [], alts := [], laidByText := true, laidKinds := [.data, .data, .data, .data], laidTests := true, laidLooks := .later }
def FnExactRowOfUptoCardSaid : Prop := Claim7.holds Tryd.pinned (.plain (OpenSpec.upto fnExactRowOfSpec)) fnExactRowOfUptoCard

/-- THE SECOND FORM's CARD OF 'laws.FnExactTurnedNumber'. -/
def fnExactTurnedNumberUptoCard : Claim7 := { stood := { row := fnExactTurnedNumberUptoRow, standIns := [], harness := (true, "24ec5872da037fe5082754712fba7b44bfe84ba4626dd321ccdb9d92fec98daa"), looks := false }, kinds := [], alts := [], laidByText := true, laidKinds := [.data, .data, .data, .data], laidTests := true, laidLooks := .later }
def FnExactTurnedNumberUptoCardSaid : Prop := Claim7.holds Tryd.pinned (.plain (OpenSpec.upto fnExactTurnedNumberSpec)) fnExactTurnedNumberUptoCard

/-- THE SECOND FORM's CARD OF 'laws.FnExactCountAlike'. -/
def fnExactCountAlikeUptoCard : Claim7 := { stood := { row := fnExactCountAlikeUptoRow, standIns := [], harness := (true, "24ec5872da037fe5082754712fba7b44bfe84ba4626dd321ccdb9d92fec98daa"), looks := false }, kinds := [], alts := [], laidByText := true, laidKinds := [.data, .data, .data, .data], laidTests := true, laidLooks := .later }
def FnExactCountAlikeUptoCardSaid : Prop := Claim7.holds Tryd.pinned (.plain (OpenSpec.upto fnExactCountAlikeSpec)) fnExactCountAlikeUptoCard

/-- THE SECOND FORM's CARD OF 'laws.FnCells'. -/
def fnCellsUptoCard : Claim7 := { stood := { row := fnCellsUptoRow, standIns := [], harness := (true, "24ec5872da037fe5082754712fba7b44bfe84ba4626dd321ccdb9d92fec98daa"), looks := false }, kinds := [], alts := [], laidByText := true, laidKinds := [.data], laidTests := true, laidLooks := .later }
def FnCellsUptoCardSaid : Prop := Claim7.holds Tryd.pinned (.plain (OpenSpec.upto fnCellsSpec)) fnCellsUptoCard
end Rows
end Go.Proofs.YtllpdnknaldbaabDoor
