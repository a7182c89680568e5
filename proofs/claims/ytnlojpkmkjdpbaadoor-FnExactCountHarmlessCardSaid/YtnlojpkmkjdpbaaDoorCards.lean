/-
  DERIVED. GIVEN WITH THE SEED: THE CARDS: each row of YtnlojpkmkjdpbaaDoorRows.lean that lists a variable, with what it lists TIED to the program's text (the seventh form; the later family's looks); each row that meets fmt, with fmt's text TOLD by the authors' own Lean function (tested against real Go, not proved from fmt's source: count such statements apart). THE CARD IS WHAT COUNTS. Prove the row's statement (the work); the ties are given (YtnlojpkmkjdpbaaDoorTie.lean); close each card by the builder's one call (the guide's Derived/Test/ToyasCard.lean, 'card_holds'). Laid BY PROGRAM, IN A SANDBOX (cutbox-door.mjs). By AI agents, Wed Nov 11 2026. No macro, syntax, notation, axiom, sorry.
-/
import Derived.Test.YtnlojpkmkjdpbaaDoorRows
import GoSem.ClaimSeven
namespace Go.Proofs.YtnlojpkmkjdpbaaDoor
namespace Rows

/-- THE TIED CARD OF 'laws.FnExactCountHarmless'. -/
def fnExactCountHarmlessCard : Claim7 := { stood := { row := fnExactCountHarmlessRow, standIns := [], harness := (true, "349d3121da752cc9c343400e16cba1c3ad563885eb24640b9df72cc80f0aa071"), looks := false }, kinds := [], alts := [], laidByText := true, laidKinds := [.data], laidTests := true, laidLooks := .later }
def FnExactCountHarmlessCardSaid : Prop := Claim7.holds Tryd.pinned (.plain (OpenSpec.ofChange fnExactCountHarmlessSpec)) fnExactCountHarmlessCard

/-- THE TIED CARD OF 'laws.FnExactFaultsOf'. -/
def fnExactFaultsOfCard : Claim7 := { stood := { row := fnExactFaultsOfRow, standIns := [], harness := (true, "349d3121da752cc9c343400e16cba1c3ad563885eb24640b9df72cc80f0aa071"), looks := false }, kinds := [], alts := [], laidByText := true, laidKinds := [.data], laidTests := true, laidLooks := .later }
def FnExactFaultsOfCardSaid : Prop := Claim7.holds Tryd.pinned (.plain (OpenSpec.ofChange fnExactFaultsOfSpec)) fnExactFaultsOfCard

/-- THE SECOND FORM's CARD OF 'laws.FnExactCountHarmless'. -/
def fnExactCountHarmlessUptoCard : Claim7 := { stood := { row := fnExactCountHarmlessUptoRow, standIns := [], harness := (true, "349d3121da752cc9c343400e16cba1c3ad563885eb24640b9df72cc80f0aa071"), looks := false }, kinds := [], alts := [], laidByText := true, laidKinds := [.data], laidTests := true, laidLooks := .later }
def FnExactCountHarmlessUptoCardSaid : Prop := Claim7.holds Tryd.pinned (.plain (OpenSpec.upto fnExactCountHarmlessSpec)) fnExactCountHarmlessUptoCard

/-- THE SECOND FORM's CARD OF 'laws.FnExactFaultsOf'. -/
def fnExactFaultsOfUptoCard : Claim7 := { stood := { row := fnExactFaultsOfUptoRow, standIns := [], harness := (true, "349d3121da752cc9c343400e16cba1c3ad563885eb24640b9df72cc80f0aa071"), looks := false }, kinds := [], alts := [], laidByText := true, laidKinds := [.data], laidTests := true, laidLooks := .later }
def FnExactFaultsOfUptoCardSaid : Prop := Claim7.holds Tryd.pinned (.plain (OpenSpec.upto fnExactFaultsOfSpec)) fnExactFaultsOfUptoCard
end Rows
end Go.Proofs.YtnlojpkmkjdpbaaDoor
