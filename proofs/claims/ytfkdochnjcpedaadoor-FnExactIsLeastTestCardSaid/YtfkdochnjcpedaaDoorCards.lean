/-
  DERIVED. GIVEN WITH THE SEED: THE CARDS: each row of YtfkdochnjcpedaaDoorRows.lean that lists a variable, with what it lists TIED to the program's text (the seventh form; the later family's looks); each row that meets fmt, with fmt's text TOLD by the authors' own Lean function (tested against real Go, not proved from fmt's source: count such statements apart). THE CARD IS WHAT COUNTS. Prove the row's statement (the work); the ties are given (YtfkdochnjcpedaaDoorTie.lean); close each card by the builder's one call (the guide's Derived/Test/ToyasCard.lean, 'card_holds'). Laid BY PROGRAM, IN A SANDBOX (cutbox-door.mjs). By AI agents, Wed Nov 11 2026. No macro, syntax, notation, axiom, sorry.
-/
import Derived.Test.YtfkdochnjcpedaaDoorRows
import GoSem.ClaimSeven
namespace Go.Proofs.YtfkdochnjcpedaaDoor
namespace Rows

/-- THE TIED CARD OF 'laws.FnLeastTests'. -/
def fnLeastTestsCard : Claim7 := { stood := { row := fnLeastTestsRow, standIns := [], harness := (true, "52f0de93af79fa685df201a6e5def6a797f08e1e358c971ee6cf4c063255bcfe"), looks := false }, kinds := [], alts := [], laidByText := true, laidKinds := [.data], laidTests := true, laidLooks := .later }
def FnLeastTestsCardSaid : Prop := Claim7.holds Tryd.pinned (.plain (OpenSpec.ofChange fnLeastTestsSpec)) fnLeastTestsCard

/-- THE TIED CARD OF 'laws.FnExactFoundStates'. -/
def fnExactFoundStatesCard : Claim7 := { stood := { row := fnExactFoundStatesRow, standIns := [], harness := (true, "52f0de93af79fa685df201a6e5def6a797f08e1e358c971ee6cf4c063255bcfe"), looks := false }, kinds := [], alts := [], laidByText := true, laidKinds := [.data], laidTests := true, laidLooks := .later }
def FnExactFoundStatesCardSaid : Prop := Claim7.holds Tryd.pinned (.plain (OpenSpec.ofChange fnExactFoundStatesSpec)) fnExactFoundStatesCard

/-- THE TIED CARD OF 'laws.FnExactHiddenStates'. -/
def fnExactHiddenStatesCard : Claim7 := { stood := { row := fnExactHiddenStatesRow, standIns := [], harness := (true, "52f0de93af79fa685df201a6e5def6a797f08e1e358c971ee6cf4c063255bcfe"), looks := false }, kinds := [], alts := [], laidByText := true, laidKinds := [.data], laidTests := true, laidLooks := .later }
def FnExactHiddenStatesCardSaid : Prop := Claim7.holds Tryd.pinned (.plain (OpenSpec.ofChange fnExactHiddenStatesSpec)) fnExactHiddenStatesCard

/-- THE TIED CARD OF 'laws.FnExactIsFullTest'. -/
def fnExactIsFullTestCard : Claim7 := { stood := { row := fnExactIsFullTestRow, standIns := [], harness := (true, "52f0de93af79fa685df201a6e5def6a797f08e1e358c971ee6cf4c063255bcfe"), looks := false }, kinds := [], alts := [], laidByText := true, laidKinds := [.data], laidTests := true, laidLooks := .later }
def FnExactIsFullTestCardSaid : Prop := Claim7.holds Tryd.pinned (.plain (OpenSpec.ofChange fnExactIsFullTestSpec)) fnExactIsFullTestCard

/-- THE TIED CARD OF 'laws.FnExactIsLeastTest'. -/
def fnExactIsLeastTestCard : Claim7 := { stood := { row := fnExactIsLeastTestRow, standIns := [], harness := (true, "52f0de93af79fa685df201a6e5def6a797f08e1e358c971ee6cf4c063255bcfe"), looks := false }, kinds := [], alts := [], laidByText := true, laidKinds := [.data], laidTests := true, laidLooks := .later }
def FnExactIsLeastTestCardSaid : Prop := Claim7.holds Tryd.pinned (.plain (OpenSpec.ofChange fnExactIsLeastTestSpec)) fnExactIsLeastTestCard

/-- THE TIED CARD OF 'laws.FnExactCountFullTests'. -/
def fnExactCountFullTestsCard : Claim7 := { stood := { row := fnExactCountFullTestsRow, standIns := [], harness := (true, "52f0de93af79fa685df201a6e5def6a797f08e1e358c971ee6cf4c063255bcfe"), looks := false }, kinds := [], alts := [], laidByText := true, laidKinds := [.data], laidTests := true, laidLooks := .later }
def FnExactCountFullTestsCardSaid : Prop := Claim7.holds Tryd.pinned (.plain (OpenSpec.ofChange fnExactCountFullTestsSpec)) fnExactCountFullTestsCard

/-- THE TIED CARD OF 'laws.FnExactLeastTests'. -/
def fnExactLeastTestsCard : Claim7 := { stood := { row := fnExactLeastTestsRow, standIns := [], harness := (true, "52f0de93af79fa685df201a6e5def6a797f08e1e358c971ee6cf4c063255bcfe"), looks := false }, kinds := [], alts := [], laidByText := true, laidKinds := [.data], laidTests := true, laidLooks := .later }
def FnExactLeastTestsCardSaid : Prop := Claim7.holds Tryd.pinned (.plain (OpenSpec.ofChange fnExactLeastTestsSpec)) fnExactLeastTestsCard

/-- THE TIED CARD OF 'laws.FnExactShortestTest'. -/
def fnExactShortestTestCard : Claim7 := { stood := { row := fnExactShortestTestRow, standIns := [], harness := (true, "52f0de93af79fa685df201a6e5def6a797f08e1e358c971ee6cf4c063255bcfe"), looks := false }, kinds := [], alts := [], laidByText := true, laidKinds := [.data], laidTests := true, laidLooks := .later }
def FnExactShortestTestCardSaid : Prop := Claim7.holds Tryd.pinned (.plain (OpenSpec.ofChange fnExactShortestTestSpec)) fnExactShortestTestCard

/-- THE SECOND FORM's CARD OF 'laws.FnLeastTests'. -/
def fnLeastTestsUptoCard : Claim7 := { stood := { row := fnLeastTestsUptoRow, standIns := [], harness := (true, "52f0de93af79fa685df201a6e5def6a797f08e1e358c971ee6cf4c063255bcfe"), looks := false }, kinds := [], alts := [], laidByText := true, laidKinds := [.data], laidTests := true, laidLooks := .later }
def FnLeastTestsUptoCardSaid : Prop := Claim7.holds Tryd.pinned (.plain (OpenSpec.upto fnLeastTestsSpec)) fnLeastTestsUptoCard

/-- THE SECOND FORM's CARD OF 'laws.FnExactFoundStates'. -/
def fnExactFoundStatesUptoCard : Claim7 := { stood := { row := fnExactFoundStatesUptoRow, standIns := [], harness := (true, "52f0de93af79fa685df201a6e5def6a797f08e1e358c971ee6cf4c063255bcfe"), looks := false }, kinds := [], alts := [], laidByText := true, laidKinds := [.data], laidTests := true, laidLooks := .later }
def FnExactFoundStatesUptoCardSaid : Prop := Claim7.holds Tryd.pinned (.plain (OpenSpec.upto fnExactFoundStatesSpec)) fnExactFoundStatesUptoCard

/-- THE SECOND FORM's CARD OF 'laws.FnExactHiddenStates'. -/
def fnExactHiddenStatesUptoCard : Claim7 := { stood := { row := fnExactHiddenStatesUptoRow, standIns := [], harness := (true, "52f0de93af79fa685df201a6e5def6a797f08e1e358c971ee6cf4c063255bcfe"), looks := false }, kinds := [], alts := [], laidByText := true, laidKinds := [.data], laidTests := true, laidLooks := .later }
def FnExactHiddenStatesUptoCardSaid : Prop := Claim7.holds Tryd.pinned (.plain (OpenSpec.upto fnExactHiddenStatesSpec)) fnExactHiddenStatesUptoCard

/-- THE SECOND FORM's CARD OF 'laws.FnExactIsFullTest'. -/
def fnExactIsFullTestUptoCard : Claim7 := { stood := { row := fnExactIsFullTestUptoRow, standIns := [], harness := (true, "52f0de93af79fa685df201a6e5def6a797f08e1e358c971ee6cf4c063255bcfe"), looks := false }, kinds := [], alts := [], laidByText := true, laidKinds := [.data], laidTests := true, laidLooks := .later }
def FnExactIsFullTestUptoCardSaid : Prop := Claim7.holds Tryd.pinned (.plain (OpenSpec.upto fnExactIsFullTestSpec)) fnExactIsFullTestUptoCard

/-- THE SECOND FORM's CARD OF 'laws.FnExactIsLeastTest'. -/
def fnExactIsLeastTestUptoCard : Claim7 := { stood := { row := fnExactIsLeastTestUptoRow, standIns := [], harness := (true, "52f0de93af79fa685df201a6e5def6a797f08e1e358c971ee6cf4c063255bcfe"), looks := false }, kinds := [], alts := [], laidByText := true, laidKinds := [.data], laidTests := true, laidLooks := .later }
def FnExactIsLeastTestUptoCardSaid : Prop := Claim7.holds Tryd.pinned (.plain (OpenSpec.upto fnExactIsLeastTestSpec)) fnExactIsLeastTestUptoCard

/-- THE SECOND FORM's CARD OF 'laws.FnExactCountFullTests'. -/
def fnExactCountFullTestsUptoCard : Claim7 := { stood := { row := fnExactCountFullTestsUptoRow, standIns := [], harness := (true, "52f0de93af79fa685df201a6e5def6a797f08e1e358c971ee6cf4c063255bcfe"), looks := false }, kinds := [], alts := [], laidByText := true, laidKinds := [.data], laidTests := true, laidLooks := .later }
def FnExactCountFullTestsUptoCardSaid : Prop := Claim7.holds Tryd.pinned (.plain (OpenSpec.upto fnExactCountFullTestsSpec)) fnExactCountFullTestsUptoCard

/-- THE SECOND FORM's CARD OF 'laws.FnExactLeastTests'. -/
def fnExactLeastTestsUptoCard : Claim7 := { stood := { row := fnExactLeastTestsUptoRow, standIns := [], harness := (true, "52f0de93af79fa685df201a6e5def6a797f08e1e358c971ee6cf4c063255bcfe"), looks := false }, kinds := [], alts := [], laidByText := true, laidKinds := [.data], laidTests := true, laidLooks := .later }
def FnExactLeastTestsUptoCardSaid : Prop := Claim7.holds Tryd.pinned (.plain (OpenSpec.upto fnExactLeastTestsSpec)) fnExactLeastTestsUptoCard

/-- THE SECOND FORM's CARD OF 'laws.FnExactShortestTest'. -/
def fnExactShortestTestUptoCard : Claim7 := { stood := { row := fnExactShortestTestUptoRow, standIns := [], harness := (true, "52f0de93af79fa685df201a6e5def6a797f08e1e358c971ee6cf4c063255bcfe"), looks := false }, kinds := [], alts := [], laidByText := true, laidKinds := [.data], laidTests := true, laidLooks := .later }
def FnExactShortestTestUptoCardSaid : Prop := Claim7.holds Tryd.pinned (.plain (OpenSpec.upto fnExactShortestTestSpec)) fnExactShortestTestUptoCard
end Rows
end Go.Proofs.YtfkdochnjcpedaaDoor
