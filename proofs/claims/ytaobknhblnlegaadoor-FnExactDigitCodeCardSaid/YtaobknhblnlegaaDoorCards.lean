/-
  DERIVED. GIVEN WITH THE SEED: THE CARDS: each row of YtaobknhblnlegaaDoorRows.lean that lists a variable, with what it lists TIED to the program's text (the seventh form; the later family's looks); each row that meets fmt, with fmt's text TOLD by the authors' own Lean function (tested against real Go, not proved from fmt's source: count such statements apart). THE CARD IS WHAT COUNTS. Prove the row's statement (the work); the ties are given (YtaobknhblnlegaaDoorTie.lean); close each card by the builder's one call (the guide's Derived/Test/ToyasCard.lean, 'card_holds'). Laid BY PROGRAM, IN A SANDBOX (cutbox-door.mjs). By AI agents, Wed Nov 11 2026. No macro, syntax, notation, axiom, sorry.
-/
import Derived.Test.YtaobknhblnlegaaDoorRows
import GoSem.ClaimSeven
namespace Go.Proofs.YtaobknhblnlegaaDoor
namespace Rows

/-- THE TIED CARD OF 'laws.FnExactDigitCode'. -/
def fnExactDigitCodeCard : Claim7 := { stood := { row := fnExactDigitCodeRow, standIns := [], harness := (true, "661dbf283b053409b1e01158759854b1837628e5bafa82593474c6ab249e7e6e"), looks := false }, kinds := [], alts := [], laidByText := true, laidKinds := [.data], laidTests := true, laidLooks := .later }
def FnExactDigitCodeCardSaid : Prop := Claim7.holds Tryd.pinned (.plain (OpenSpec.ofChange fnExactDigitCodeSpec)) fnExactDigitCodeCard

/-- THE SECOND FORM's CARD OF 'laws.FnExactDigitCode'. -/
def fnExactDigitCodeUptoCard : Claim7 := { stood := { row := fnExactDigitCodeUptoRow, standIns := [], harness := (true, "661dbf283b053409b1e01158759854b1837628e5bafa82593474c6ab249e7e6e"), looks := false }, kinds := [], alts := [], laidByText := true, laidKinds := [.data], laidTests := true, laidLooks := .later }
def FnExactDigitCodeUptoCardSaid : Prop := Claim7.holds Tryd.pinned (.plain (OpenSpec.upto fnExactDigitCodeSpec)) fnExactDigitCodeUptoCard
end Rows
end Go.Proofs.YtaobknhblnlegaaDoor
