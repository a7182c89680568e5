/-
  DERIVED. GIVEN WITH THE SEED: THE CARDS: each row of YtjbbijlbenkgcaaDoorRows.lean that lists a variable, with what it lists TIED to the program's text (the seventh form; the later family's looks); each row that meets fmt, with fmt's text TOLD by the authors' own Lean function (tested against real Go, not proved from fmt's source: count such statements apart). THE CARD IS WHAT COUNTS. Prove the row's statement (the work); the ties are given (YtjbbijlbenkgcaaDoorTie.lean); close each card by the builder's one call (the guide's Derived/Test/ToyasCard.lean, 'card_holds'). Laid BY PROGRAM, IN A SANDBOX (cutbox-door.mjs). By AI agents, Wed Nov 11 2026. No macro, syntax, notation, axiom, sorry.
-/
import Derived.Test.YtjbbijlbenkgcaaDoorRows
import GoSem.ClaimSeven
namespace Go.Proofs.YtjbbijlbenkgcaaDoor
namespace Rows

/-- THE TIED CARD OF 'laws.FnFaultsFound'. -/
def fnFaultsFoundCard : Claim7 := { stood := { row := fnFaultsFoundRow, standIns := [], harness := (true, "f31ae163e8ffa7adf7924d317c734bf4c9378a4123b92a1aa8f011ac20ffce1c"), looks := false }, kinds := [], alts := [], laidByText := true, laidKinds := [.data], laidTests := true, laidLooks := .later }
def FnFaultsFoundCardSaid : Prop := Claim7.holds Tryd.pinned (.plain (OpenSpec.ofChange fnFaultsFoundSpec)) fnFaultsFoundCard

/-- THE TIED CARD OF 'laws.FnGaps'. -/
def fnGapsCard : Claim7 := { stood := { row := fnGapsRow, standIns := [], harness := (true, "f31ae163e8ffa7adf7924d317c734bf4c9378a4123b92a1aa8f011ac20ffce1c"), looks := false }, kinds := [], alts := [], laidByText := true, laidKinds := [.data], laidTests := true, laidLooks := .later }
def FnGapsCardSaid : Prop := Claim7.holds Tryd.pinned (.plain (OpenSpec.ofChange fnGapsSpec)) fnGapsCard

/-- THE TIED CARD OF 'laws.FnCounters'. -/
def fnCountersCard : Claim7 := { stood := { row := fnCountersRow, standIns := [], harness := (true, "f31ae163e8ffa7adf7924d317c734bf4c9378a4123b92a1aa8f011ac20ffce1c"), looks := false }, kinds := [], alts := [], laidByText := true, laidKinds := [.data], laidTests := true, laidLooks := .later }
def FnCountersCardSaid : Prop := Claim7.holds Tryd.pinned (.plain (OpenSpec.ofChange fnCountersSpec)) fnCountersCard

/-- THE SECOND FORM's CARD OF 'laws.FnFaultsFound'. -/
def fnFaultsFoundUptoCard : Claim7 := { stood := { row := fnFaultsFoundUptoRow, standIns := [], harness := (true, "f31ae163e8ffa7adf7924d317c734bf4c9378a4123b92a1aa8f011ac20ffce1c"), looks := false }, kinds := [], alts := [], laidByText := true, laidKinds := [.data], laidTests := true, laidLooks := .later }
def FnFaultsFoundUptoCardSaid : Prop := Claim7.holds Tryd.pinned (.plain (OpenSpec.upto fnFaultsFoundSpec)) fnFaultsFoundUptoCard

/-- THE SECOND FORM's CARD OF 'laws.FnGaps'. -/
def fnGapsUptoCard : Claim7 := { stood := { row := fnGapsUptoRow, standIns := [], harness := (true, "f31ae163e8ffa7adf7924d317c734bf4c9378a4123b92a1aa8f011ac20ffce1c"), looks := false }, kinds := [], alts := [], laidByText := true, laidKinds := [.data], laidTests := true, laidLooks := .later }
def FnGapsUptoCardSaid : Prop := Claim7.holds Tryd.pinned (.plain (OpenSpec.upto fnGapsSpec)) fnGapsUptoCard

/-- THE SECOND FORM's CARD OF 'laws.FnCounters'. -/
def fnCountersUptoCard : Claim7 := { stood := { row := fnCountersUptoRow, standIns := [], harness := (true, "f31ae163e8ffa7adf7924d317c734bf4c9378a4123b92a1aa8f011ac20ffce1c"), looks := false }, kinds := [], alts := [], laidByText := true, laidKinds := [.data], laidTests := true, laidLooks := .later }
def FnCountersUptoCardSaid : Prop := Claim7.holds Tryd.pinned (.plain (OpenSpec.upto fnCountersSpec)) fnCountersUptoCard
end Rows
end Go.Proofs.YtjbbijlbenkgcaaDoor
