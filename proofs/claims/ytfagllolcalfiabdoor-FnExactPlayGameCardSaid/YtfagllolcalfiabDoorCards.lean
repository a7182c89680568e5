/-
  DERIVED. GIVEN WITH THE SEED: THE CARDS: each row of YtfagllolcalfiabDoorRows.lean that lists a variable, with what it lists TIED to the program's text (the seventh form; the later family's looks); each row that meets fmt, with fmt's text TOLD by the authors' own Lean function (tested against real Go, not proved from fmt's source: count such statements apart). THE CARD IS WHAT COUNTS. Prove the row's statement (the work); the ties are given (YtfagllolcalfiabDoorTie.lean); close each card by the builder's one call (the guide's Derived/Test/ToyasCard.lean, 'card_holds'). Laid BY PROGRAM, IN A SANDBOX (cutbox-door.mjs). By AI agents, Wed Nov 11 2026. No macro, syntax, notation, axiom, sorry.
-/
import Derived.Test.YtfagllolcalfiabDoorRows
import GoSem.ClaimSeven
namespace Go.Proofs.YtfagllolcalfiabDoor
namespace Rows

/-- THE TIED CARD OF 'laws.FnExactLastCells'. -/
def fnExactLastCellsCard : Claim7 := { stood := { row := fnExactLastCellsRow, standIns := [], harness := (true, "fbaa314a2e82397faa70d4c968986fddee9e86889ddeb20d7c1e0c28cc8d0194"), looks := false }, kinds := [], alts := [], laidByText := true, laidKinds := [.data], laidTests := true, laidLooks := .later }
def FnExactLastCellsCardSaid : Prop := Claim7.holds Tryd.pinned (.plain (OpenSpec.ofChange fnExactLastCellsSpec)) fnExactLastCellsCard

/-- THE TIED CARD OF 'laws.FnExactPlayGame'. -/
def fnExactPlayGameCard : Claim7 := { stood := { row := fnExactPlayGameRow, standIns := [], harness := (true, "fbaa314a2e82397faa70d4c968986fddee9e86889ddeb20d7c1e0c28cc8d0194"), looks := false }, kinds := [], alts := [], laidByText := true, laidKinds := [.data], laidTests := true, laidLooks := .later }
def FnExactPlayGameCardSaid : Prop := Claim7.holds Tryd.pinned (.plain (OpenSpec.ofChange fnExactPlayGameSpec)) fnExactPlayGameCard

/-- THE SECOND FORM's CARD OF 'laws.FnExactLastCells'. -/
def fnExactLastCellsUptoCard : Claim7 := { stood := { row := fnExactLastCellsUptoRow, standIns := [], harness := (true, "fbaa314a2e82397faa70d4c968986fddee9e86889ddeb20d7c1e0c28cc8d0194"), looks := false }, kinds := [], alts := [], laidByText := true, laidKinds := [.data], laidTests := true, laidLooks := .later }
def FnExactLastCellsUptoCardSaid : Prop := Claim7.holds Tryd.pinned (.plain (OpenSpec.upto fnExactLastCellsSpec)) fnExactLastCellsUptoCard

/-- THE SECOND FORM's CARD OF 'laws.FnExactPlayGame'. -/
def fnExactPlayGameUptoCard : Claim7 := { stood := { row := fnExactPlayGameUptoRow, standIns := [], harness := (true, "fbaa314a2e82397faa70d4c968986fddee9e86889ddeb20d7c1e0c28cc8d0194"), looks := false }, kinds := [], alts := [], laidByText := true, laidKinds := [.data], laidTests := true, laidLooks := .later }
def FnExactPlayGameUptoCardSaid : Prop := Claim7.holds Tryd.pinned (.plain (OpenSpec.upto fnExactPlayGameSpec)) fnExactPlayGameUptoCard
end Rows
end Go.Proofs.YtfagllolcalfiabDoor
