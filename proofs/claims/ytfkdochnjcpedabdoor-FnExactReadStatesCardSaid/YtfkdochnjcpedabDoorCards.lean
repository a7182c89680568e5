/-
  DERIVED. GIVEN WITH THE SEED: THE CARDS: each row of YtfkdochnjcpedabDoorRows.lean that lists a variable, with what it lists TIED to the program's text (the seventh form; the later family's looks); each row that meets fmt, with fmt's text TOLD by the authors' own Lean function (tested against real Go, not proved from fmt's source: count such statements apart). THE CARD IS WHAT COUNTS. Prove the row's statement (the work); the ties are given (YtfkdochnjcpedabDoorTie.lean); close each card by the builder's one call (the guide's Derived/Test/ToyasCard.lean, 'card_holds'). Laid BY PROGRAM, IN A SANDBOX (cutbox-door.mjs). By AI agents, Wed Nov 11 2026. No macro, syntax, notation, axiom, sorry.
-/
import Derived.Test.YtfkdochnjcpedabDoorRows
import GoSem.ClaimSeven
namespace Go.Proofs.YtfkdochnjcpedabDoor
namespace Rows

/-- THE TIED CARD OF 'laws.FnExactReadStates'. -/
def fnExactReadStatesCard : Claim7 := { stood := { row := fnExactReadStatesRow, standIns := [], harness := (true, "bd43d33acdcf996eafbfc2acd93e5737f295caf9a018be16e8e2b37d96b8795c"), looks := false }, kinds := [], alts := [], laidByText := true, laidKinds := [.data], laidTests := true, laidLooks := .later }
def FnExactReadStatesCardSaid : Prop := Claim7.holds Tryd.pinned (.plain (OpenSpec.ofChange fnExactReadStatesSpec)) fnExactReadStatesCard

/-- THE TIED CARD OF 'laws.FnExactChangesOf'. -/
def fnExactChangesOfCard : Claim7 := { stood := { row := fnExactChangesOfRow, standIns := [], harness := (true, "bd43d33acdcf996eafbfc2acd93e5737f295caf9a018be16e8e2b37d96b8795c"), looks := false }, kinds := [], alts := [], laidByText := true, laidKinds := [.data], laidTests := true, laidLooks := .later }
def FnExactChangesOfCardSaid : Prop := Claim7.holds Tryd.pinned (.plain (OpenSpec.ofChange fnExactChangesOfSpec)) fnExactChangesOfCard

/-- THE TIED CARD OF 'laws.FnExactQuietOrder'. -/
def fnExactQuietOrderCard : Claim7 := { stood := { row := fnExactQuietOrderRow, standIns := [], harness := (true, "bd43d33acdcf996eafbfc2acd93e5737f295caf9a018be16e8e2b37d96b8795c"), looks := false }, kinds := [], alts := [], laidByText := true, laidKinds := [.data], laidTests := true, laidLooks := .later }
def FnExactQuietOrderCardSaid : Prop := Claim7.holds Tryd.pinned (.plain (OpenSpec.ofChange fnExactQuietOrderSpec)) fnExactQuietOrderCard

/-- THE TIED CARD OF 'laws.FnExactFirstFinding'. -/
def fnExactFirstFindingCard : Claim7 := { stood := { row := fnExactFirstFindingRow, standIns := [], harness := (true, "bd43d33acdcf996eafbfc2acd93e5737f295caf9a018be16e8e2b37d96b8795c"), looks := false }, kinds := [], alts := [], laidByText := true, laidKinds := [.data], laidTests := true, laidLooks := .later }
def FnExactFirstFindingCardSaid : Prop := Claim7.holds Tryd.pinned (.plain (OpenSpec.ofChange fnExactFirstFindingSpec)) fnExactFirstFindingCard

/-- THE SECOND FORM's CARD OF 'laws.FnExactReadStates'. -/
def fnExactReadStatesUptoCard : Claim7 := { stood := { row := fnExactReadStatesUptoRow, standIns := [], harness := (true, "bd43d33acdcf996eafbfc2acd93e5737f295caf9a018be16e8e2b37d96b8795c"), looks := false }, kinds := [], alts := [], laidByText := true, laidKinds := [.data], laidTests := true, laidLooks := .later }
def FnExactReadStatesUptoCardSaid : Prop := Claim7.holds Tryd.pinned (.plain (OpenSpec.upto fnExactReadStatesSpec)) fnExactReadStatesUptoCard

/-- THE SECOND FORM's CARD OF 'laws.FnExactChangesOf'. -/
def fnExactChangesOfUptoCard : Claim7 := { stood := { row := fnExactChangesOfUptoRow, standIns := [], harness := (true, "bd43d33acdcf996eafbfc2acd93e5737f295caf9a018be16e8e2b37d96b8795c"), looks := false }, kinds := [], alts := [], laidByText := true, laidKinds := [.data], laidTests := true, laidLooks := .later }
def FnExactChangesOfUptoCardSaid : Prop := Claim7.holds Tryd.pinned (.plain (OpenSpec.upto fnExactChangesOfSpec)) fnExactChangesOfUptoCard

/-- THE SECOND FORM's CARD OF 'laws.FnExactQuietOrder'. -/
def fnExactQuietOrderUptoCard : Claim7 := { stood := { row := fnExactQuietOrderUptoRow, standIns := [], harness := (true, "bd43d33acdcf996eafbfc2acd93e5737f295caf9a018be16e8e2b37d96b8795c"), looks := false }, kinds := [], alts := [], laidByText := true, laidKinds := [.data], laidTests := true, laidLooks := .later }
def FnExactQuietOrderUptoCardSaid : Prop := Claim7.holds Tryd.pinned (.plain (OpenSpec.upto fnExactQuietOrderSpec)) fnExactQuietOrderUptoCard

/-- THE SECOND FORM's CARD OF 'laws.FnExactFirstFinding'. -/
def fnExactFirstFindingUptoCard : Claim7 := { stood := { row := fnExactFirstFindingUptoRow, standIns := [], harness := (true, "bd43d33acdcf996eafbfc2acd93e5737f295caf9a018be16e8e2b37d96b8795c"), looks := false }, kinds := [], alts := [], laidByText := true, laidKinds := [.data], laidTests := true, laidLooks := .later }
def FnExactFirstFindingUptoCardSaid : Prop := Claim7.holds Tryd.pinned (.plain (OpenSpec.upto fnExactFirstFindingSpec)) fnExactFirstFindingUptoCard
end Rows
end Go.Proofs.YtfkdochnjcpedabDoor
