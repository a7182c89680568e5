/-
  No cell of these rows narrows 'for every input' (looked for: loops, veiled, ifaces, maps, wideKeys, modest, calm, conditions, laid).
  DERIVED. THE GIVEN ROWS OF THIS SEAT. 5 by the template 'for every input the law returns true; each argument reads behind the call as it read before'; 0 by the template 'total and deterministic' (their statements: YtegccncfiimjkaaTotals.lean).
  GIVEN WITH THE SEED: the statements are not yours to turn. If you find one false, say at which input.
  Laid BY PROGRAM, IN A SANDBOX (cutbox-rows.mjs): the forced cells as the released guide's own fill.sh prints them over the translation df35fe2e742275e6… (all of the seat's roots in one cut). By AI agents, Wed Nov 11 2026. No macro, syntax, notation, axiom, sorry.
-/
import Derived.Test.YtegccncfiimjkaaChecked
import GoSem.Claim
import GoSem.ClaimJoined
import GoSem.ClaimMapViews
import Derived.JoinedTies
import Derived.KernelRfl
namespace Go.Proofs.Ytegccncfiimjkaa
/- THE CELL 'sum', in the pinned program and in every row, IS THE sha256 OF THE DUMP (.gsa) THAT YtegccncfiimjkaaProg.lean LOADS. Nothing in Lean hashes anything: it is a label: what it is worth is what the hold of that sum in a sandbox is worth. -/
noncomputable def Try.pinned : Pinned := { name := "ytegccncfiimjkaa", sum := "df35fe2e742275e65eb71c279eefc7929a182b410d690cf3fbb61b0d4b75e9af", checked := Try.checked }
namespace Rows
def none {H : Type} : Left H := { results := [], args := [] }

/-- 'laws.FnExactIsFault': WHATEVER THE INPUT: true; the input reads as it did. -/
def fnExactIsFaultSpec : ChangeSpec := { name := "fnExactIsFault", fn := fun _ => fun
  | [d] => { results := [.lit (.bool true)], args := [d] }
  | _ => none }
def fnExactIsFaultRow : OpenClaim := { program := "ytegccncfiimjkaa", sum := "df35fe2e742275e65eb71c279eefc7929a182b410d690cf3fbb61b0d4b75e9af", func := "loop.example/g01265/laws.FnExactIsFault", spec := "fnExactIsFault", apart := false }
def FnExactIsFaultSaid : Prop := fnExactIsFaultRow.holds Try.pinned (OpenSpec.ofChange fnExactIsFaultSpec)

/-- ITS FALSE NEIGHBOUR: 'it returns false'. Refute it at one input. -/
def fnExactIsFaultWrong : ChangeSpec := { name := "fnExactIsFault", fn := fun _ => fun
  | [d] => { results := [.lit (.bool false)], args := [d] }
  | _ => none }
def FnExactIsFaultWrongFalsely : Prop := fnExactIsFaultRow.holds Try.pinned (OpenSpec.ofChange fnExactIsFaultWrong)

/-- 'laws.FnExactShownCell': WHATEVER THE INPUT: true; the input reads as it did. -/
def fnExactShownCellSpec : ChangeSpec := { name := "fnExactShownCell", fn := fun _ => fun
  | [d1, d2] => { results := [.lit (.bool true)], args := [d1, d2] }
  | _ => none }
def fnExactShownCellRow : OpenClaim := { program := "ytegccncfiimjkaa", sum := "df35fe2e742275e65eb71c279eefc7929a182b410d690cf3fbb61b0d4b75e9af", func := "loop.example/g01265/laws.FnExactShownCell", spec := "fnExactShownCell", apart := false }
def FnExactShownCellSaid : Prop := fnExactShownCellRow.holds Try.pinned (OpenSpec.ofChange fnExactShownCellSpec)

/-- ITS FALSE NEIGHBOUR: 'it returns false'. Refute it at one input. -/
def fnExactShownCellWrong : ChangeSpec := { name := "fnExactShownCell", fn := fun _ => fun
  | [d1, d2] => { results := [.lit (.bool false)], args := [d1, d2] }
  | _ => none }
def FnExactShownCellWrongFalsely : Prop := fnExactShownCellRow.holds Try.pinned (OpenSpec.ofChange fnExactShownCellWrong)

/-- 'laws.FnExactShownRow': WHATEVER THE INPUT: true; the input reads as it did. -/
def fnExactShownRowSpec : ChangeSpec := { name := "fnExactShownRow", fn := fun _ => fun
  | [d1, d2] => { results := [.lit (.bool true)], args := [d1, d2] }
  | _ => none }
def fnExactShownRowRow : OpenClaim := { program := "ytegccncfiimjkaa", sum := "df35fe2e742275e65eb71c279eefc7929a182b410d690cf3fbb61b0d4b75e9af", func := "loop.example/g01265/laws.FnExactShownRow", spec := "fnExactShownRow", apart := false }
def FnExactShownRowSaid : Prop := fnExactShownRowRow.holds Try.pinned (OpenSpec.ofChange fnExactShownRowSpec)

/-- ITS FALSE NEIGHBOUR: 'it returns false'. Refute it at one input. -/
def fnExactShownRowWrong : ChangeSpec := { name := "fnExactShownRow", fn := fun _ => fun
  | [d1, d2] => { results := [.lit (.bool false)], args := [d1, d2] }
  | _ => none }
def FnExactShownRowWrongFalsely : Prop := fnExactShownRowRow.holds Try.pinned (OpenSpec.ofChange fnExactShownRowWrong)

/-- 'laws.FnExactJoinFaults': WHATEVER THE INPUT: true; the input reads as it did. -/
def fnExactJoinFaultsSpec : ChangeSpec := { name := "fnExactJoinFaults", fn := fun _ => fun
  | [d1, d2] => { results := [.lit (.bool true)], args := [d1, d2] }
  | _ => none }
def fnExactJoinFaultsRow : OpenClaim := { program := "ytegccncfiimjkaa", sum := "df35fe2e742275e65eb71c279eefc7929a182b410d690cf3fbb61b0d4b75e9af", func := "loop.example/g01265/laws.FnExactJoinFaults", spec := "fnExactJoinFaults", apart := false }
def FnExactJoinFaultsSaid : Prop := fnExactJoinFaultsRow.holds Try.pinned (OpenSpec.ofChange fnExactJoinFaultsSpec)

/-- ITS FALSE NEIGHBOUR: 'it returns false'. Refute it at one input. -/
def fnExactJoinFaultsWrong : ChangeSpec := { name := "fnExactJoinFaults", fn := fun _ => fun
  | [d1, d2] => { results := [.lit (.bool false)], args := [d1, d2] }
  | _ => none }
def FnExactJoinFaultsWrongFalsely : Prop := fnExactJoinFaultsRow.holds Try.pinned (OpenSpec.ofChange fnExactJoinFaultsWrong)

/-- 'laws.FnExactTurnFault': WHATEVER THE INPUT: true; the input reads as it did. -/
def fnExactTurnFaultSpec : ChangeSpec := { name := "fnExactTurnFault", fn := fun _ => fun
  | [d] => { results := [.lit (.bool true)], args := [d] }
  | _ => none }
def fnExactTurnFaultRow : OpenClaim := { program := "ytegccncfiimjkaa", sum := "df35fe2e742275e65eb71c279eefc7929a182b410d690cf3fbb61b0d4b75e9af", func := "loop.example/g01265/laws.FnExactTurnFault", spec := "fnExactTurnFault", inPlace := ["internal/bytealg.IndexByteString", "internal/bytealg.IndexString"], named := ["internal/bytealg.MaxLen"], apart := false }
def FnExactTurnFaultSaid : Prop := fnExactTurnFaultRow.holds Try.pinned (OpenSpec.ofChange fnExactTurnFaultSpec)

/-- ITS FALSE NEIGHBOUR: 'it returns false'. Refute it at one input. -/
def fnExactTurnFaultWrong : ChangeSpec := { name := "fnExactTurnFault", fn := fun _ => fun
  | [d] => { results := [.lit (.bool false)], args := [d] }
  | _ => none }
def FnExactTurnFaultWrongFalsely : Prop := fnExactTurnFaultRow.holds Try.pinned (OpenSpec.ofChange fnExactTurnFaultWrong)

/- THE SECOND FORM. 'bulk': how many values and letters a reading holds, each counted each time it is reached (what is shared counts as often as it is met; a slice's spare places count too). A statement '..UptoSaid' is the law's where the arguments, and the package variables that the reading takes, are together of bulk at most 1048576: NARROWER than '..Said'. Prove '..Said' where nothing that the law and all that it calls make is longer than what came in: it says more and counts as full. Else prove '..UptoSaid'. A law counts once. -/
mutual
def uptoBulk {H : Type} : DataW H → Nat
  | .lit (.string bytes) => bytes.length + 1
  | .lit _ => 1
  | .nil => 1
  | .ptr d => uptoBulk d + 1
  | .slice elems spare => uptoBulkAll elems + uptoBulkAll spare + 1
  | .agg parts => uptoBulkAll parts + 1
  | .iface _ d => uptoBulk d + 1
  | .map entries => uptoBulkEntries entries + 1
  | .held _ => 1
def uptoBulkAll {H : Type} : List (DataW H) → Nat
  | [] => 0
  | d :: r => uptoBulk d + uptoBulkAll r
def uptoBulkEntries {H : Type} : List (Lit × DataW H) → Nat
  | [] => 0
  | x :: r => uptoBulkEntry x + uptoBulkEntries r
def uptoBulkEntry {H : Type} : Lit × DataW H → Nat
  | (.string bytes, d) => bytes.length + uptoBulk d + 1
  | (_, d) => uptoBulk d + 1
 end
def uptoSmall : (H : Type) → List (DataW H) → Bool := fun _ ds => decide (uptoBulkAll ds ≤ 1048576)
def OpenSpec.upto (s : _root_.Go.ChangeSpec) : _root_.Go.OpenSpec := { _root_.Go.OpenSpec.ofChange s with cond := some uptoSmall }

/-- 'laws.FnExactIsFault', WHERE WHAT IT READS IS OF BULK AT MOST 1048576: true; the input reads as it did. -/
def fnExactIsFaultUptoRow : OpenClaim := { program := "ytegccncfiimjkaa", sum := "df35fe2e742275e65eb71c279eefc7929a182b410d690cf3fbb61b0d4b75e9af", func := "loop.example/g01265/laws.FnExactIsFault", spec := "fnExactIsFault", apart := false, narrowed := true }
def FnExactIsFaultUptoSaid : Prop := fnExactIsFaultUptoRow.holds Try.pinned (OpenSpec.upto fnExactIsFaultSpec)

/-- 'laws.FnExactShownCell', WHERE WHAT IT READS IS OF BULK AT MOST 1048576: true; the input reads as it did. -/
def fnExactShownCellUptoRow : OpenClaim := { program := "ytegccncfiimjkaa", sum := "df35fe2e742275e65eb71c279eefc7929a182b410d690cf3fbb61b0d4b75e9af", func := "loop.example/g01265/laws.FnExactShownCell", spec := "fnExactShownCell", apart := false, narrowed := true }
def FnExactShownCellUptoSaid : Prop := fnExactShownCellUptoRow.holds Try.pinned (OpenSpec.upto fnExactShownCellSpec)

/-- 'laws.FnExactShownRow', WHERE WHAT IT READS IS OF BULK AT MOST 1048576: true; the input reads as it did. -/
def fnExactShownRowUptoRow : OpenClaim := { program := "ytegccncfiimjkaa", sum := "df35fe2e742275e65eb71c279eefc7929a182b410d690cf3fbb61b0d4b75e9af", func := "loop.example/g01265/laws.FnExactShownRow", spec := "fnExactShownRow", apart := false, narrowed := true }
def FnExactShownRowUptoSaid : Prop := fnExactShownRowUptoRow.holds Try.pinned (OpenSpec.upto fnExactShownRowSpec)

/-- 'laws.FnExactJoinFaults', WHERE WHAT IT READS IS OF BULK AT MOST 1048576: true; the input reads as it did. -/
def fnExactJoinFaultsUptoRow : OpenClaim := { program := "ytegccncfiimjkaa", sum := "df35fe2e742275e65eb71c279eefc7929a182b410d690cf3fbb61b0d4b75e9af", func := "loop.example/g01265/laws.FnExactJoinFaults", spec := "fnExactJoinFaults", apart := false, narrowed := true }
def FnExactJoinFaultsUptoSaid : Prop := fnExactJoinFaultsUptoRow.holds Try.pinned (OpenSpec.upto fnExactJoinFaultsSpec)

/-- 'laws.FnExactTurnFault', WHERE WHAT IT READS IS OF BULK AT MOST 1048576: true; the input reads as it did. -/
def fnExactTurnFaultUptoRow : OpenClaim := { program := "ytegccncfiimjkaa", sum := "df35fe2e742275e65eb71c279eefc7929a182b410d690cf3fbb61b0d4b75e9af", func := "loop.example/g01265/laws.FnExactTurnFault", spec := "fnExactTurnFault", inPlace := ["internal/bytealg.IndexByteString", "internal/bytealg.IndexString"], named := ["internal/bytealg.MaxLen"], apart := false, narrowed := true }
def FnExactTurnFaultUptoSaid : Prop := fnExactTurnFaultUptoRow.holds Try.pinned (OpenSpec.upto fnExactTurnFaultSpec)

end Rows
end Go.Proofs.Ytegccncfiimjkaa
