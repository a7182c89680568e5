/-
  DERIVED. GIVEN WITH THE SEED: THE CARDS: each row of YtkeekfodmjfbhaaDoorRows.lean that lists a variable, with what it lists TIED to the program's text (the seventh form; the later family's looks); each row that meets fmt, with fmt's text TOLD by the authors' own Lean function (tested against real Go, not proved from fmt's source: count such statements apart). THE CARD IS WHAT COUNTS. Prove the row's statement (the work); the ties are given (YtkeekfodmjfbhaaDoorTie.lean); close each card by the builder's one call (the guide's Derived/Test/ToyasCard.lean, 'card_holds'). Laid BY PROGRAM, IN A SANDBOX (cutbox-door.mjs). By AI agents, Wed Nov 11 2026. No macro, syntax, notation, axiom, sorry.
-/
import Derived.Test.YtkeekfodmjfbhaaDoorRows
import GoSem.ClaimSeven
namespace Go.Proofs.YtkeekfodmjfbhaaDoor
namespace Rows

/-- THE TIED CARD OF 'laws.FnExactLeastOrder'. -/
def fnExactLeastOrderCard : Claim7 := { stood := { row := fnExactLeastOrderRow, standIns := [], harness := (true, "71c44d5ca5c3359b4528f5bc832e4d611d6b40222262480b44affc57d3e5cea4"), looks := false }, kinds := [], alts := [], laidByText := true, laidKinds := [.data], laidTests := true, laidLooks := .later }
def FnExactLeastOrderCardSaid : Prop := Claim7.holds Tryd.pinned (.plain (OpenSpec.ofChange fnExactLeastOrderSpec)) fnExactLeastOrderCard

/-- THE TIED CARD OF 'laws.FnExactLeastRing'. -/
def fnExactLeastRingCard : Claim7 := { stood := { row := fnExactLeastRingRow, standIns := [], harness := (true, "71c44d5ca5c3359b4528f5bc832e4d611d6b40222262480b44affc57d3e5cea4"), looks := false }, kinds := [], alts := [], laidByText := true, laidKinds := [.data], laidTests := true, laidLooks := .later }
def FnExactLeastRingCardSaid : Prop := Claim7.holds Tryd.pinned (.plain (OpenSpec.ofChange fnExactLeastRingSpec)) fnExactLeastRingCard

/-- THE TIED CARD OF 'laws.FnExactQuietOrder'. -/
def fnExactQuietOrderCard : Claim7 := { stood := { row := fnExactQuietOrderRow, standIns := [], harness := (true, "71c44d5ca5c3359b4528f5bc832e4d611d6b40222262480b44affc57d3e5cea4"), looks := false }, kinds := [], alts := [], laidByText := true, laidKinds := [.data], laidTests := true, laidLooks := .later }
def FnExactQuietOrderCardSaid : Prop := Claim7.holds Tryd.pinned (.plain (OpenSpec.ofChange fnExactQuietOrderSpec)) fnExactQuietOrderCard

/-- THE SECOND FORM's CARD OF 'laws.FnExactLeastOrder'. -/
def fnExactLeastOrderUptoCard : Claim7 := { stood := { row := fnExactLeastOrderUptoRow, standIns := [], harness := (true, "71c44d5ca5c3359b4528f5bc832e4d611d6b40222262480b44affc57d3e5cea4"), looks := false }, kinds := [], alts := [], laidByText := true, laidKinds := [.data], laidTests := true, laidLooks := .later }
def FnExactLeastOrderUptoCardSaid : Prop := Claim7.holds Tryd.pinned (.plain (OpenSpec.upto fnExactLeastOrderSpec)) fnExactLeastOrderUptoCard

/-- THE SECOND FORM's CARD OF 'laws.FnExactLeastRing'. -/
def fnExactLeastRingUptoCard : Claim7 := { stood := { row := fnExactLeastRingUptoRow, standIns := [], harness := (true, "71c44d5ca5c3359b4528f5bc832e4d611d6b40222262480b44affc57d3e5cea4"), looks := false }, kinds := [], alts := [], laidByText := true, laidKinds := [.data], laidTests := true, laidLooks := .later }
def FnExactLeastRingUptoCardSaid : Prop := Claim7.holds Tryd.pinned (.plain (OpenSpec.upto fnExactLeastRingSpec)) fnExactLeastRingUptoCard

/-- THE SECOND FORM's CARD OF 'laws.FnExactQuietOrder'. -/
def fnExactQuietOrderUptoCard : Claim7 := { stood := { row := fnExactQuietOrderUptoRow, standIns := [], harness := (true, "71c44d5ca5c3359b4528f5bc832e4d611d6b40222262480b44affc57d3e5cea4"), looks := false }, kinds := [], alts := [], laidByText := true, laidKinds := [.data], laidTests := true, laidLooks := .later }
def FnExactQuietOrderUptoCardSaid : Prop := Claim7.holds Tryd.pinned (.plain (OpenSpec.upto fnExactQuietOrderSpec)) fnExactQuietOrderUptoCard
end Rows
end Go.Proofs.YtkeekfodmjfbhaaDoor
