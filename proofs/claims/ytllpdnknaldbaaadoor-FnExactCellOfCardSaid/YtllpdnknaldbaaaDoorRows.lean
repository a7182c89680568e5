/-
  NARROWER THAN 'FOR EVERY INPUT', by the rows' own cells (each row's printed sentence says how): FnExactCellOf: laid · FnExactDigitOf: laid · FnExactNumberOf: laid.
  DERIVED. THE GIVEN ROWS OF THIS SEAT. 3 by the template 'for every input the law returns true; each argument reads behind the call as it read before'; 0 by the template 'total and deterministic' (their statements: YtllpdnknaldbaaaDoorTotals.lean).
  GIVEN WITH THE SEED: the statements are not yours to turn. If you find one false, say at which input.
  Laid BY PROGRAM, IN A SANDBOX (cutbox-rows.mjs): the forced cells as the released guide's own fill.sh prints them over the translation 955874a693fb2258… (all of the seat's roots in one cut). By AI agents, Wed Nov 11 2026. No macro, syntax, notation, axiom, sorry.
-/
import Derived.Test.YtllpdnknaldbaaaDoorChecked
import GoSem.Claim
import GoSem.ClaimJoined
import GoSem.ClaimMapViews
import Derived.JoinedTies
import Derived.KernelRfl
namespace Go.Proofs.YtllpdnknaldbaaaDoor
/- THE CELL 'sum', in the pinned program and in every row, IS THE sha256 OF THE DUMP (.gsa) THAT YtllpdnknaldbaaaDoorProg.lean LOADS. Nothing in Lean hashes anything: it is a label: what it is worth is what the hold of that sum in a sandbox is worth. -/
noncomputable def Tryd.pinned : Pinned := { name := "ytllpdnknaldbaaadoor", sum := "955874a693fb225849498e63c20e91ea11245d94e1ad8cf3f48be7c309773595", checked := Tryd.checked }
namespace Rows
def none {H : Type} : Left H := { results := [], args := [] }

/- WHAT THE LISTED PACKAGE-LEVEL VARIABLES READ AS WHEN THE CALL BEGINS. Each datum BY PROGRAM (the guide's laid-datum.mjs) off the statement by which the dump's own 'gosem.cut.vars' lays the variable. In a bare row this is a premise. The card (YtllpdnknaldbaaaDoorCards.lean) ties it to the program's text. -/
def laid_loop_example_g01265_impl_digitBars {H : Type} : DataW H := .agg [.lit (.string [97, 98, 99, 100, 101, 102]), .lit (.string [98, 99]), .lit (.string [97, 98, 100, 101, 103]), .lit (.string [97, 98, 99, 100, 103]), .lit (.string [98, 99, 102, 103]), .lit (.string [97, 99, 100, 102, 103]), .lit (.string [97, 99, 100, 101, 102, 103]), .lit (.string [97, 98, 99]), .lit (.string [97, 98, 99, 100, 101, 102, 103]), .lit (.string [97, 98, 99, 100, 102, 103])]

/-- 'laws.FnExactCellOf': WHATEVER THE INPUT: true; the input reads as it did. -/
def fnExactCellOfSpec : ChangeSpec := { name := "fnExactCellOf", vars := ["loop.example/g01265/impl.digitBars"], fn := fun _ => fun
  | [d, g1] => { results := [.lit (.bool true)], args := [d], vars := [g1] }
  | _ => none }
def fnExactCellOfRow : OpenClaim := { program := "ytllpdnknaldbaaadoor", sum := "955874a693fb225849498e63c20e91ea11245d94e1ad8cf3f48be7c309773595", func := "loop.example/g01265/laws.FnExactCellOf", spec := "fnExactCellOf", inPlace := ["internal/bytealg.IndexByteString", "internal/bytealg.IndexString"], named := ["loop.example/g01265/impl.digitBars", "internal/bytealg.MaxLen"], apart := false, laid := [("loop.example/g01265/impl.digitBars", laid_loop_example_g01265_impl_digitBars)] }
def FnExactCellOfSaid : Prop := fnExactCellOfRow.holds Tryd.pinned (OpenSpec.ofChange fnExactCellOfSpec)

/-- ITS FALSE NEIGHBOUR: 'it returns false'. Refute it at one input. -/
def fnExactCellOfWrong : ChangeSpec := { name := "fnExactCellOf", vars := ["loop.example/g01265/impl.digitBars"], fn := fun _ => fun
  | [d, g1] => { results := [.lit (.bool false)], args := [d], vars := [g1] }
  | _ => none }
def FnExactCellOfWrongFalsely : Prop := fnExactCellOfRow.holds Tryd.pinned (OpenSpec.ofChange fnExactCellOfWrong)

/-- 'laws.FnExactDigitOf': WHATEVER THE INPUT: true; the input reads as it did. -/
def fnExactDigitOfSpec : ChangeSpec := { name := "fnExactDigitOf", vars := ["loop.example/g01265/impl.digitBars"], fn := fun _ => fun
  | [d, g1] => { results := [.lit (.bool true)], args := [d], vars := [g1] }
  | _ => none }
def fnExactDigitOfRow : OpenClaim := { program := "ytllpdnknaldbaaadoor", sum := "955874a693fb225849498e63c20e91ea11245d94e1ad8cf3f48be7c309773595", func := "loop.example/g01265/laws.FnExactDigitOf", spec := "fnExactDigitOf", inPlace := ["internal/bytealg.IndexByteString", "internal/bytealg.IndexString"], named := ["loop.example/g01265/impl.digitBars", "internal/bytealg.MaxLen"], apart := false, laid := [("loop.example/g01265/impl.digitBars", laid_loop_example_g01265_impl_digitBars)] }
def FnExactDigitOfSaid : Prop := fnExactDigitOfRow.holds Tryd.pinned (OpenSpec.ofChange fnExactDigitOfSpec)

/-- ITS FALSE NEIGHBOUR: 'it returns false'. Refute it at one input. -/
def fnExactDigitOfWrong : ChangeSpec := { name := "fnExactDigitOf", vars := ["loop.example/g01265/impl.digitBars"], fn := fun _ => fun
  | [d, g1] => { results := [.lit (.bool false)], args := [d], vars := [g1] }
  | _ => none }
def FnExactDigitOfWrongFalsely : Prop := fnExactDigitOfRow.holds Tryd.pinned (OpenSpec.ofChange fnExactDigitOfWrong)

/-- 'laws.FnExactNumberOf': WHATEVER THE INPUT: true; the input reads as it did. -/
def fnExactNumberOfSpec : ChangeSpec := { name := "fnExactNumberOf", vars := ["loop.example/g01265/impl.digitBars"], fn := fun _ => fun
  | [d, g1] => { results := [.lit (.bool true)], args := [d], vars := [g1] }
  | _ => none }
def fnExactNumberOfRow : OpenClaim := { program := "ytllpdnknaldbaaadoor", sum := "955874a693fb225849498e63c20e91ea11245d94e1ad8cf3f48be7c309773595", func := "loop.example/g01265/laws.FnExactNumberOf", spec := "fnExactNumberOf", inPlace := ["internal/bytealg.IndexByteString", "internal/bytealg.IndexString"], named := ["loop.example/g01265/impl.digitBars", "internal/bytealg.MaxLen"], apart := false, laid := [("loop.example/g01265/impl.digitBars", laid_loop_example_g01265_impl_digitBars)] }
def FnExactNumberOfSaid : Prop := fnExactNumberOfRow.holds Tryd.pinned (OpenSpec.ofChange fnExactNumberOfSpec)

/-- ITS FALSE NEIGHBOUR: 'it returns false'. Refute it at one input. -/
def fnExactNumberOfWrong : ChangeSpec := { name := "fnExactNumberOf", vars := ["loop.example/g01265/impl.digitBars"], fn := fun _ => fun
  | [d, g1] => { results := [.lit (.bool false)], args := [d], vars := [g1] }
  | _ => none }
def FnExactNumberOfWrongFalsely : Prop := fnExactNumberOfRow.holds Tryd.pinned (OpenSpec.ofChange fnExactNumberOfWrong)

/- THE SECOND FORM. 'bulk': how many values and letters a reading holds, each counted each time it is reached (what is shared counts as often as it is met; a slice's spare places count too). A statement '..UptoSaid' is the law's where the arguments, and the package variables that the reading takes, are together of bulk at most 1048576: NARROWER than '..Said'. Prove '..Said' where nothing that the law and all that it calls make is longer than what came in: it says more and counts as full. Else prove '..UptoSaid'. A law counts once. -/
mutual
def uptoBulk {H : Type} : DataW H → Nat
  | .lit (.string bytes) => bytes.length + 1
  | .lit _ => 1
  | .nil => 1
  | .ptr d => uptoBulk d + 1
  | .slice elems spare => uptoBulkAll elems + uptoBulkAll spare + 1
  | .agg parts => uptoBulkAll parts + 1
  | .iface _ d => uptoBulk d + 1
  | .map entries => uptoBulkEntries entries + 1
  | .held _ => 1
def uptoBulkAll {H : Type} : List (DataW H) → Nat
  | [] => 0
  | d :: r => uptoBulk d + uptoBulkAll r
def uptoBulkEntries {H : Type} : List (Lit × DataW H) → Nat
  | [] => 0
  | x :: r => uptoBulkEntry x + uptoBulkEntries r
def uptoBulkEntry {H : Type} : Lit × DataW H → Nat
  | (.string bytes, d) => bytes.length + uptoBulk d + 1
  | (_, d) => uptoBulk d + 1
 end
def uptoSmall : (H : Type) → List (DataW H) → Bool := fun _ ds => decide (uptoBulkAll ds ≤ 1048576)
def OpenSpec.upto (s : _root_.Go.ChangeSpec) : _root_.Go.OpenSpec := { _root_.Go.OpenSpec.ofChange s with cond := some uptoSmall }

/-- 'laws.FnExactCellOf', WHERE WHAT IT READS IS OF BULK AT MOST 1048576: true; the input reads as it did. -/
def fnExactCellOfUptoRow : OpenClaim := { program := "ytllpdnknaldbaaadoor", sum := "955874a693fb225849498e63c20e91ea11245d94e1ad8cf3f48be7c309773595", func := "loop.example/g01265/laws.FnExactCellOf", spec := "fnExactCellOf", inPlace := ["internal/bytealg.IndexByteString", "internal/bytealg.IndexString"], named := ["loop.example/g01265/impl.digitBars", "internal/bytealg.MaxLen"], apart := false, laid := [("loop.example/g01265/impl.digitBars", laid_loop_example_g01265_impl_digitBars)], narrowed := true }
def FnExactCellOfUptoSaid : Prop := fnExactCellOfUptoRow.holds Tryd.pinned (OpenSpec.upto fnExactCellOfSpec)

/-- 'laws.FnExactDigitOf', WHERE WHAT IT READS IS OF BULK AT MOST 1048576: true; the input reads as it did. -/
def fnExactDigitOfUptoRow : OpenClaim := { program := "ytllpdnknaldbaaadoor", sum := "955874a693fb225849498e63c20e91ea11245d94e1ad8cf3f48be7c309773595", func := "loop.example/g01265/laws.FnExactDigitOf", spec := "fnExactDigitOf", inPlace := ["internal/bytealg.IndexByteString", "internal/bytealg.IndexString"], named := ["loop.example/g01265/impl.digitBars", "internal/bytealg.MaxLen"], apart := false, laid := [("loop.example/g01265/impl.digitBars", laid_loop_example_g01265_impl_digitBars)], narrowed := true }
def FnExactDigitOfUptoSaid : Prop := fnExactDigitOfUptoRow.holds Tryd.pinned (OpenSpec.upto fnExactDigitOfSpec)

/-- 'laws.FnExactNumberOf', WHERE WHAT IT READS IS OF BULK AT MOST 1048576: true; the input reads as it did. -/
def fnExactNumberOfUptoRow : OpenClaim := { program := "ytllpdnknaldbaaadoor", sum := "955874a693fb225849498e63c20e91ea11245d94e1ad8cf3f48be7c309773595", func := "loop.example/g01265/laws.FnExactNumberOf", spec := "fnExactNumberOf", inPlace := ["internal/bytealg.IndexByteString", "internal/bytealg.IndexString"], named := ["loop.example/g01265/impl.digitBars", "internal/bytealg.MaxLen"], apart := false, laid := [("loop.example/g01265/impl.digitBars", laid_loop_example_g01265_impl_digitBars)], narrowed := true }
def FnExactNumberOfUptoSaid : Prop := fnExactNumberOfUptoRow.holds Tryd.pinned (OpenSpec.upto fnExactNumberOfSpec)

end Rows
end Go.Proofs.YtllpdnknaldbaaaDoor
