/-
  DERIVED. GIVEN WITH THE SEED: THE CARDS: each row of YtahjedckfkkcnabDoorRows.lean that lists a variable, with what it lists TIED to the program's text (the seventh form; the later family's looks); each row that meets fmt, with fmt's text TOLD by the authors' own Lean function (tested against real Go, not proved from fmt's source: count such statements apart). THE CARD IS WHAT COUNTS. Prove the row's statement (the work); the ties are given (YtahjedckfkkcnabDoorTie.lean); close each card by the builder's one call (the guide's Derived/Test/ToyasCard.lean, 'card_holds'). Laid BY PROGRAM, IN A SANDBOX (cutbox-door.mjs). By AI agents, Wed Nov 11 2026. No macro, syntax, notation, axiom, sorry.
-/
import Derived.Test.YtahjedckfkkcnabDoorRows
import GoSem.ClaimSeven
namespace Go.Proofs.YtahjedckfkkcnabDoor
namespace Rows

/-- THE TIED CARD OF 'laws.FnExactChangeTable'. -/
def fnExactChangeTableCard : Claim7 := { stood := { row := fnExactChangeTableRow, standIns := [], harness := (true, "4516031e23de6a0dc6e3a4397fc9afad76739acd49cb42fb343f6102f010104e"), looks := false }, kinds := [], alts := [], laidByText := true, laidKinds := [.data], laidTests := true, laidLooks := .later }
def FnExactChangeTableCardSaid : Prop := Claim7.holds Tryd.pinned (.plain (OpenSpec.ofChange fnExactChangeTableSpec)) fnExactChangeTableCard

/-- THE TIED CARD OF 'laws.FnExactBarShares'. -/
def fnExactBarSharesCard : Claim7 := { stood := { row := fnExactBarSharesRow, standIns := [], harness := (true, "4516031e23de6a0dc6e3a4397fc9afad76739acd49cb42fb343f6102f010104e"), looks := false }, kinds := [], alts := [], laidByText := true, laidKinds := [.data], laidTests := true, laidLooks := .later }
def FnExactBarSharesCardSaid : Prop := Claim7.holds Tryd.pinned (.plain (OpenSpec.ofChange fnExactBarSharesSpec)) fnExactBarSharesCard

/-- THE TIED CARD OF 'laws.FnExactNearestDigits'. -/
def fnExactNearestDigitsCard : Claim7 := { stood := { row := fnExactNearestDigitsRow, standIns := [], harness := (true, "4516031e23de6a0dc6e3a4397fc9afad76739acd49cb42fb343f6102f010104e"), looks := false }, kinds := [], alts := [], laidByText := true, laidKinds := [.data], laidTests := true, laidLooks := .later }
def FnExactNearestDigitsCardSaid : Prop := Claim7.holds Tryd.pinned (.plain (OpenSpec.ofChange fnExactNearestDigitsSpec)) fnExactNearestDigitsCard

/-- THE TIED CARD OF 'laws.FnExactOrderCost'. -/
def fnExactOrderCostCard : Claim7 := { stood := { row := fnExactOrderCostRow, standIns := [], harness := (true, "4516031e23de6a0dc6e3a4397fc9afad76739acd49cb42fb343f6102f010104e"), looks := false }, kinds := [], alts := [], laidByText := true, laidKinds := [.data], laidTests := true, laidLooks := .later }
def FnExactOrderCostCardSaid : Prop := Claim7.holds Tryd.pinned (.plain (OpenSpec.ofChange fnExactOrderCostSpec)) fnExactOrderCostCard

/-- THE TIED CARD OF 'laws.FnExactLeastOrder'. -/
def fnExactLeastOrderCard : Claim7 := { stood := { row := fnExactLeastOrderRow, standIns := [], harness := (true, "4516031e23de6a0dc6e3a4397fc9afad76739acd49cb42fb343f6102f010104e"), looks := false }, kinds := [], alts := [], laidByText := true, laidKinds := [.data], laidTests := true, laidLooks := .later }
def FnExactLeastOrderCardSaid : Prop := Claim7.holds Tryd.pinned (.plain (OpenSpec.ofChange fnExactLeastOrderSpec)) fnExactLeastOrderCard

/-- THE TIED CARD OF 'laws.FnExactLeastRing'. -/
def fnExactLeastRingCard : Claim7 := { stood := { row := fnExactLeastRingRow, standIns := [], harness := (true, "4516031e23de6a0dc6e3a4397fc9afad76739acd49cb42fb343f6102f010104e"), looks := false }, kinds := [], alts := [], laidByText := true, laidKinds := [.data], laidTests := true, laidLooks := .later }
def FnExactLeastRingCardSaid : Prop := Claim7.holds Tryd.pinned (.plain (OpenSpec.ofChange fnExactLeastRingSpec)) fnExactLeastRingCard

/-- THE TIED CARD OF 'laws.FnOrders'. -/
def fnOrdersCard : Claim7 := { stood := { row := fnOrdersRow, standIns := [], harness := (true, "4516031e23de6a0dc6e3a4397fc9afad76739acd49cb42fb343f6102f010104e"), looks := false }, kinds := [], alts := [], laidByText := true, laidKinds := [.data], laidTests := true, laidLooks := .later }
def FnOrdersCardSaid : Prop := Claim7.holds Tryd.pinned (.plain (OpenSpec.ofChange fnOrdersSpec)) fnOrdersCard

/-- THE SECOND FORM's CARD OF 'laws.FnExactChangeTable'. -/
def fnExactChangeTableUptoCard : Claim7 := { stood := { row := fnExactChangeTableUptoRow, standIns := [], harness := (true, "4516031e23de6a0dc6e3a4397fc9afad76739acd49cb42fb343f6102f010104e"), looks := false }, kinds := [], alts := [], laidByText := true, laidKinds := [.data], laidTests := true, laidLooks := .later }
def FnExactChangeTableUptoCardSaid : Prop := Claim7.holds Tryd.pinned (.plain (OpenSpec.upto fnExactChangeTableSpec)) fnExactChangeTableUptoCard

/-- THE SECOND FORM's CARD OF 'laws.FnExactBarShares'. -/
def fnExactBarSharesUptoCard : Claim7 := { stood := { row := fnExactBarSharesUptoRow, standIns := [], harness := (true, "4516031e23de6a0dc6e3a4397fc9afad76739acd49cb42fb343f6102f010104e"), looks := false }, kinds := [], alts := [], laidByText := true, laidKinds := [.data], laidTests := true, laidLooks := .later }
def FnExactBarSharesUptoCardSaid : Prop := Claim7.holds Tryd.pinned (.plain (OpenSpec.upto fnExactBarSharesSpec)) fnExactBarSharesUptoCard

/-- THE SECOND FORM's CARD OF 'laws.FnExactNearestDigits'. -/
def fnExactNearestDigitsUptoCard : Claim7 := { stood := { row := fnExactNearestDigitsUptoRow, standIns := [], harness := (true, "4516031e23de6a0dc6e3a4397fc9afad76739acd49cb42fb343f6102f010104e"), looks := false }, kinds := [], alts := [], laidByText := true, laidKinds := [.data], laidTests := true, laidLooks := .later }
def FnExactNearestDigitsUptoCardSaid : Prop := Claim7.holds Tryd.pinned (.plain (OpenSpec.upto fnExactNearestDigitsSpec)) fnExactNearestDigitsUptoCard

/-- THE SECOND FORM's CARD OF 'laws.FnExactOrderCost'. -/
def fnExactOrderCostUptoCard : Claim7 := { stood := { row := fnExactOrderCostUptoRow, standIns := [], harness := (true, "4516031e23de6a0dc6e3a4397fc9afad76739acd49cb42fb343f6102f010104e"), looks := false }, kinds := [], alts := [], laidByText := true, laidKinds := [.data], laidTests := true, laidLooks := .later }
def FnExactOrderCostUptoCardSaid : Prop := Claim7.holds Tryd.pinned (.plain (OpenSpec.upto fnExactOrderCostSpec)) fnExactOrderCostUptoCard

/-- THE SECOND FORM's CARD OF 'laws.FnExactLeastOrder'. -/
def fnExactLeastOrderUptoCard : Claim7 := { stood := { row := fnExactLeastOrderUptoRow, standIns := [], harness := (true, "4516031e23de6a0dc6e3a4397fc9afad76739acd49cb42fb343f6102f010104e"), looks := false }, kinds := [], alts := [], laidByText := true, laidKinds := [.data], laidTests := true, laidLooks := .later }
def FnExactLeastOrderUptoCardSaid : Prop := Claim7.holds Tryd.pinned (.plain (OpenSpec.upto fnExactLeastOrderSpec)) fnExactLeastOrderUptoCard

/-- THE SECOND FORM's CARD OF 'laws.FnExactLeastRing'. -/
def fnExactLeastRingUptoCard : Claim7 := { stood := { row := fnExactLeastRingUptoRow, standIns := [], harness := (true, "4516031e23de6a0dc6e3a4397fc9afad76739acd49cb42fb343f6102f010104e"), looks := false }, kinds := [], alts := [], laidByText := true, laidKinds := [.data], laidTests := true, laidLooks := .later }
def FnExactLeastRingUptoCardSaid : Prop := Claim7.holds Tryd.pinned (.plain (OpenSpec.upto fnExactLeastRingSpec)) fnExactLeastRingUptoCard

/-- THE SECOND FORM's CARD OF 'laws.FnOrders'. -/
def fnOrdersUptoCard : Claim7 := { stood := { row := fnOrdersUptoRow, standIns := [], harness := (true, "4516031e23de6a0dc6e3a4397fc9afad76739acd49cb42fb343f6102f010104e"), looks := false }, kinds := [], alts := [], laidByText := true, laidKinds := [.data], laidTests := true, laidLooks := .later }
def FnOrdersUptoCardSaid : Prop := Claim7.holds Tryd.pinned (.plain (OpenSpec.upto fnOrdersSpec)) fnOrdersUptoCard
end Rows
end Go.Proofs.YtahjedckfkkcnabDoor
