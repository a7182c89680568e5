/-
  NARROWER THAN 'FOR EVERY INPUT', by the rows' own cells (each row's printed sentence says how): FnLeastTests: laid · FnExactFoundStates: laid · FnExactHiddenStates: laid · FnExactIsFullTest: laid · FnExactIsLeastTest: laid · FnExactCountFullTests: laid · FnExactLeastTests: laid · FnExactShortestTest: laid.
  DERIVED. THE GIVEN ROWS OF THIS SEAT. 8 by the template 'for every input the law returns true; each argument reads behind the call as it read before'; 0 by the template 'total and deterministic' (their statements: YtfkdochnjcpedaaDoorTotals.lean).
  GIVEN WITH THE SEED: the statements are not yours to turn. If you find one false, say at which input.
  Laid BY PROGRAM, IN A SANDBOX (cutbox-rows.mjs): the forced cells as the released guide's own fill.sh prints them over the translation bc928623b703020e… (all of the seat's roots in one cut). By AI agents, Wed Nov 11 2026. No macro, syntax, notation, axiom, sorry.
-/
import Derived.Test.YtfkdochnjcpedaaDoorChecked
import GoSem.Claim
import GoSem.ClaimJoined
import GoSem.ClaimMapViews
import Derived.JoinedTies
import Derived.KernelRfl
namespace Go.Proofs.YtfkdochnjcpedaaDoor
/- THE CELL 'sum', in the pinned program and in every row, IS THE sha256 OF THE DUMP (.gsa) THAT YtfkdochnjcpedaaDoorProg.lean LOADS. Nothing in Lean hashes anything: it is a label: what it is worth is what the hold of that sum in a sandbox is worth. -/
noncomputable def Tryd.pinned : Pinned := { name := "ytfkdochnjcpedaadoor", sum := "bc928623b703020efd5f03ccff718d72e0f9633afce88b0ee72aeed7282b9c43", checked := Tryd.checked }
namespace Rows
def none {H : Type} : Left H := { results := [], args := [] }

/- WHAT THE LISTED PACKAGE-LEVEL VARIABLES READ AS WHEN THE CALL BEGINS. Each datum BY PROGRAM (the guide's laid-datum.mjs) off the statement by which the dump's own 'gosem.cut.vars' lays the variable. In a bare row this is a premise. The card (YtfkdochnjcpedaaDoorCards.lean) ties it to the program's text. -/
def laid_loop_example_g01265_impl_digitBars {H : Type} : DataW H := .agg [.lit (.string [97, 98, 99, 100, 101, 102]), .lit (.string [98, 99]), .lit (.string [97, 98, 100, 101, 103]), .lit (.string [97, 98, 99, 100, 103]), .lit (.string [98, 99, 102, 103]), .lit (.string [97, 99, 100, 102, 103]), .lit (.string [97, 99, 100, 101, 102, 103]), .lit (.string [97, 98, 99]), .lit (.string [97, 98, 99, 100, 101, 102, 103]), .lit (.string [97, 98, 99, 100, 102, 103])]

/-- 'laws.FnLeastTests': WHATEVER THE INPUT: true; the input reads as it did. -/
def fnLeastTestsSpec : ChangeSpec := { name := "fnLeastTests", vars := ["loop.example/g01265/impl.digitBars"], fn := fun _ => fun
  | [d, g1] => { results := [.lit (.bool true)], args := [d], vars := [g1] }
  | _ => none }
def fnLeastTestsRow : OpenClaim := { program := "ytfkdochnjcpedaadoor", sum := "bc928623b703020efd5f03ccff718d72e0f9633afce88b0ee72aeed7282b9c43", func := "loop.example/g01265/laws.FnLeastTests", spec := "fnLeastTests", inPlace := ["internal/bytealg.IndexByteString", "internal/bytealg.IndexString"], unfollowed := true, recurses := true, named := ["loop.example/g01265/impl.digitBars", "internal/bytealg.MaxLen"], apart := false, laid := [("loop.example/g01265/impl.digitBars", laid_loop_example_g01265_impl_digitBars)] }
def FnLeastTestsSaid : Prop := fnLeastTestsRow.holds Tryd.pinned (OpenSpec.ofChange fnLeastTestsSpec)

/-- ITS FALSE NEIGHBOUR: 'it returns false'. Refute it at one input. -/
def fnLeastTestsWrong : ChangeSpec := { name := "fnLeastTests", vars := ["loop.example/g01265/impl.digitBars"], fn := fun _ => fun
  | [d, g1] => { results := [.lit (.bool false)], args := [d], vars := [g1] }
  | _ => none }
def FnLeastTestsWrongFalsely : Prop := fnLeastTestsRow.holds Tryd.pinned (OpenSpec.ofChange fnLeastTestsWrong)

/-- 'laws.FnExactFoundStates': WHATEVER THE INPUT: true; the input reads as it did. -/
def fnExactFoundStatesSpec : ChangeSpec := { name := "fnExactFoundStates", vars := ["loop.example/g01265/impl.digitBars"], fn := fun _ => fun
  | [d, g1] => { results := [.lit (.bool true)], args := [d], vars := [g1] }
  | _ => none }
def fnExactFoundStatesRow : OpenClaim := { program := "ytfkdochnjcpedaadoor", sum := "bc928623b703020efd5f03ccff718d72e0f9633afce88b0ee72aeed7282b9c43", func := "loop.example/g01265/laws.FnExactFoundStates", spec := "fnExactFoundStates", inPlace := ["internal/bytealg.IndexByteString", "internal/bytealg.IndexString"], unfollowed := true, recurses := true, named := ["loop.example/g01265/impl.digitBars", "internal/bytealg.MaxLen"], apart := false, laid := [("loop.example/g01265/impl.digitBars", laid_loop_example_g01265_impl_digitBars)] }
def FnExactFoundStatesSaid : Prop := fnExactFoundStatesRow.holds Tryd.pinned (OpenSpec.ofChange fnExactFoundStatesSpec)

/-- ITS FALSE NEIGHBOUR: 'it returns false'. Refute it at one input. -/
def fnExactFoundStatesWrong : ChangeSpec := { name := "fnExactFoundStates", vars := ["loop.example/g01265/impl.digitBars"], fn := fun _ => fun
  | [d, g1] => { results := [.lit (.bool false)], args := [d], vars := [g1] }
  | _ => none }
def FnExactFoundStatesWrongFalsely : Prop := fnExactFoundStatesRow.holds Tryd.pinned (OpenSpec.ofChange fnExactFoundStatesWrong)

/-- 'laws.FnExactHiddenStates': WHATEVER THE INPUT: true; the input reads as it did. -/
def fnExactHiddenStatesSpec : ChangeSpec := { name := "fnExactHiddenStates", vars := ["loop.example/g01265/impl.digitBars"], fn := fun _ => fun
  | [d, g1] => { results := [.lit (.bool true)], args := [d], vars := [g1] }
  | _ => none }
def fnExactHiddenStatesRow : OpenClaim := { program := "ytfkdochnjcpedaadoor", sum := "bc928623b703020efd5f03ccff718d72e0f9633afce88b0ee72aeed7282b9c43", func := "loop.example/g01265/laws.FnExactHiddenStates", spec := "fnExactHiddenStates", inPlace := ["internal/bytealg.IndexByteString", "internal/bytealg.IndexString"], unfollowed := true, recurses := true, named := ["loop.example/g01265/impl.digitBars", "internal/bytealg.MaxLen"], apart := false, laid := [("loop.example/g01265/impl.digitBars", laid_loop_example_g01265_impl_digitBars)] }
def FnExactHiddenStatesSaid : Prop := fnExactHiddenStatesRow.holds Tryd.pinned (OpenSpec.ofChange fnExactHiddenStatesSpec)

/-- ITS FALSE NEIGHBOUR: 'it returns false'. Refute it at one input. -/
def fnExactHiddenStatesWrong : ChangeSpec := { name := "fnExactHiddenStates", vars := ["loop.example/g01265/impl.digitBars"], fn := fun _ => fun
  | [d, g1] => { results := [.lit (.bool false)], args := [d], vars := [g1] }
  | _ => none }
def FnExactHiddenStatesWrongFalsely : Prop := fnExactHiddenStatesRow.holds Tryd.pinned (OpenSpec.ofChange fnExactHiddenStatesWrong)

/-- 'laws.FnExactIsFullTest': WHATEVER THE INPUT: true; the input reads as it did. -/
def fnExactIsFullTestSpec : ChangeSpec := { name := "fnExactIsFullTest", vars := ["loop.example/g01265/impl.digitBars"], fn := fun _ => fun
  | [d, g1] => { results := [.lit (.bool true)], args := [d], vars := [g1] }
  | _ => none }
def fnExactIsFullTestRow : OpenClaim := { program := "ytfkdochnjcpedaadoor", sum := "bc928623b703020efd5f03ccff718d72e0f9633afce88b0ee72aeed7282b9c43", func := "loop.example/g01265/laws.FnExactIsFullTest", spec := "fnExactIsFullTest", inPlace := ["internal/bytealg.IndexByteString", "internal/bytealg.IndexString"], unfollowed := true, recurses := true, named := ["loop.example/g01265/impl.digitBars", "internal/bytealg.MaxLen"], apart := false, laid := [("loop.example/g01265/impl.digitBars", laid_loop_example_g01265_impl_digitBars)] }
def FnExactIsFullTestSaid : Prop := fnExactIsFullTestRow.holds Tryd.pinned (OpenSpec.ofChange fnExactIsFullTestSpec)

/-- ITS FALSE NEIGHBOUR: 'it returns false'. Refute it at one input. -/
def fnExactIsFullTestWrong : ChangeSpec := { name := "fnExactIsFullTest", vars := ["loop.example/g01265/impl.digitBars"], fn := fun _ => fun
  | [d, g1] => { results := [.lit (.bool false)], args := [d], vars := [g1] }
  | _ => none }
def FnExactIsFullTestWrongFalsely : Prop := fnExactIsFullTestRow.holds Tryd.pinned (OpenSpec.ofChange fnExactIsFullTestWrong)

/-- 'laws.FnExactIsLeastTest': WHATEVER THE INPUT: true; the input reads as it did. -/
def fnExactIsLeastTestSpec : ChangeSpec := { name := "fnExactIsLeastTest", vars := ["loop.example/g01265/impl.digitBars"], fn := fun _ => fun
  | [d, g1] => { results := [.lit (.bool true)], args := [d], vars := [g1] }
  | _ => none }
def fnExactIsLeastTestRow : OpenClaim := { program := "ytfkdochnjcpedaadoor", sum := "bc928623b703020efd5f03ccff718d72e0f9633afce88b0ee72aeed7282b9c43", func := "loop.example/g01265/laws.FnExactIsLeastTest", spec := "fnExactIsLeastTest", inPlace := ["internal/bytealg.IndexByteString", "internal/bytealg.IndexString"], unfollowed := true, recurses := true, named := ["loop.example/g01265/impl.digitBars", "internal/bytealg.MaxLen"], apart := false, laid := [("loop.example/g01265/impl.digitBars", laid_loop_example_g01265_impl_digitBars)] }
def FnExactIsLeastTestSaid : Prop := fnExactIsLeastTestRow.holds Tryd.pinned (OpenSpec.ofChange fnExactIsLeastTestSpec)

/-- ITS FALSE NEIGHBOUR: 'it returns false'. Refute it at one input. -/
def fnExactIsLeastTestWrong : ChangeSpec := { name := "fnExactIsLeastTest", vars := ["loop.example/g01265/impl.digitBars"], fn := fun _ => fun
  | [d, g1] => { results := [.lit (.bool false)], args := [d], vars := [g1] }
  | _ => none }
def FnExactIsLeastTestWrongFalsely : Prop := fnExactIsLeastTestRow.holds Tryd.pinned (OpenSpec.ofChange fnExactIsLeastTestWrong)

/-- 'laws.FnExactCountFullTests': WHATEVER THE INPUT: true; the input reads as it did. -/
def fnExactCountFullTestsSpec : ChangeSpec := { name := "fnExactCountFullTests", vars := ["loop.example/g01265/impl.digitBars"], fn := fun _ => fun
  | [d, g1] => { results := [.lit (.bool true)], args := [d], vars := [g1] }
  | _ => none }
def fnExactCountFullTestsRow : OpenClaim := { program := "ytfkdochnjcpedaadoor", sum := "bc928623b703020efd5f03ccff718d72e0f9633afce88b0ee72aeed7282b9c43", func := "loop.example/g01265/laws.FnExactCountFullTests", spec := "fnExactCountFullTests", inPlace := ["internal/bytealg.IndexByteString", "internal/bytealg.IndexString"], unfollowed := true, recurses := true, named := ["loop.example/g01265/impl.digitBars", "internal/bytealg.MaxLen"], apart := false, laid := [("loop.example/g01265/impl.digitBars", laid_loop_example_g01265_impl_digitBars)] }
def FnExactCountFullTestsSaid : Prop := fnExactCountFullTestsRow.holds Tryd.pinned (OpenSpec.ofChange fnExactCountFullTestsSpec)

/-- ITS FALSE NEIGHBOUR: 'it returns false'. Refute it at one input. -/
def fnExactCountFullTestsWrong : ChangeSpec := { name := "fnExactCountFullTests", vars := ["loop.example/g01265/impl.digitBars"], fn := fun _ => fun
  | [d, g1] => { results := [.lit (.bool false)], args := [d], vars := [g1] }
  | _ => none }
def FnExactCountFullTestsWrongFalsely : Prop := fnExactCountFullTestsRow.holds Tryd.pinned (OpenSpec.ofChange fnExactCountFullTestsWrong)

/-- 'laws.FnExactLeastTests': WHATEVER THE INPUT: true; the input reads as it did. -/
def fnExactLeastTestsSpec : ChangeSpec := { name := "fnExactLeastTests", vars := ["loop.example/g01265/impl.digitBars"], fn := fun _ => fun
  | [g1] => { results := [.lit (.bool true)], args := [], vars := [g1] }
  | _ => none }
def fnExactLeastTestsRow : OpenClaim := { program := "ytfkdochnjcpedaadoor", sum := "bc928623b703020efd5f03ccff718d72e0f9633afce88b0ee72aeed7282b9c43", func := "loop.example/g01265/laws.FnExactLeastTests", spec := "fnExactLeastTests", inPlace := ["internal/bytealg.IndexByteString", "internal/bytealg.IndexString"], unfollowed := true, recurses := true, named := ["loop.example/g01265/impl.digitBars", "internal/bytealg.MaxLen"], apart := false, laid := [("loop.example/g01265/impl.digitBars", laid_loop_example_g01265_impl_digitBars)] }
def FnExactLeastTestsSaid : Prop := fnExactLeastTestsRow.holds Tryd.pinned (OpenSpec.ofChange fnExactLeastTestsSpec)

/-- ITS FALSE NEIGHBOUR: 'it returns false'. Refute it at one input. -/
def fnExactLeastTestsWrong : ChangeSpec := { name := "fnExactLeastTests", vars := ["loop.example/g01265/impl.digitBars"], fn := fun _ => fun
  | [g1] => { results := [.lit (.bool false)], args := [], vars := [g1] }
  | _ => none }
def FnExactLeastTestsWrongFalsely : Prop := fnExactLeastTestsRow.holds Tryd.pinned (OpenSpec.ofChange fnExactLeastTestsWrong)

/-- 'laws.FnExactShortestTest': WHATEVER THE INPUT: true; the input reads as it did. -/
def fnExactShortestTestSpec : ChangeSpec := { name := "fnExactShortestTest", vars := ["loop.example/g01265/impl.digitBars"], fn := fun _ => fun
  | [d, g1] => { results := [.lit (.bool true)], args := [d], vars := [g1] }
  | _ => none }
def fnExactShortestTestRow : OpenClaim := { program := "ytfkdochnjcpedaadoor", sum := "bc928623b703020efd5f03ccff718d72e0f9633afce88b0ee72aeed7282b9c43", func := "loop.example/g01265/laws.FnExactShortestTest", spec := "fnExactShortestTest", inPlace := ["internal/bytealg.IndexByteString", "internal/bytealg.IndexString"], unfollowed := true, recurses := true, named := ["loop.example/g01265/impl.digitBars", "internal/bytealg.MaxLen"], apart := false, laid := [("loop.example/g01265/impl.digitBars", laid_loop_example_g01265_impl_digitBars)] }
def FnExactShortestTestSaid : Prop := fnExactShortestTestRow.holds Tryd.pinned (OpenSpec.ofChange fnExactShortestTestSpec)

/-- ITS FALSE NEIGHBOUR: 'it returns false'. Refute it at one input. -/
def fnExactShortestTestWrong : ChangeSpec := { name := "fnExactShortestTest", vars := ["loop.example/g01265/impl.digitBars"], fn := fun _ => fun
  | [d, g1] => { results := [.lit (.bool false)], args := [d], vars := [g1] }
  | _ => none }
def FnExactShortestTestWrongFalsely : Prop := fnExactShortestTestRow.holds Tryd.pinned (OpenSpec.ofChange fnExactShortestTestWrong)

/- THE SECOND FORM. 'bulk': how many values and letters a reading holds, each counted each time it is reached (what is shared counts as often as it is met; a slice's spare places count too). A statement '..UptoSaid' is the law's where the arguments, and the package variables that the reading takes, are together of bulk at most 1048576: NARROWER than '..Said'. Prove '..Said' where nothing that the law and all that it calls make is longer than what came in: it says more and counts as full. Else prove '..UptoSaid'. A law counts once. -/
mutual
def uptoBulk {H : Type} : DataW H → Nat
  | .lit (.string bytes) => bytes.length + 1
  | .lit _ => 1
  | .nil => 1
  | .ptr d => uptoBulk d + 1
  | .slice elems spare => uptoBulkAll elems + uptoBulkAll spare + 1
  | .agg parts => uptoBulkAll parts + 1
  | .iface _ d => uptoBulk d + 1
  | .map entries => uptoBulkEntries entries + 1
  | .held _ => 1
def uptoBulkAll {H : Type} : List (DataW H) → Nat
  | [] => 0
  | d :: r => uptoBulk d + uptoBulkAll r
def uptoBulkEntries {H : Type} : List (Lit × DataW H) → Nat
  | [] => 0
  | x :: r => uptoBulkEntry x + uptoBulkEntries r
def uptoBulkEntry {H : Type} : Lit × DataW H → Nat
  | (.string bytes, d) => bytes.length + uptoBulk d + 1
  | (_, d) => uptoBulk d + 1
 end
def uptoSmall : (H : Type) → List (DataW H) → Bool := fun _ ds => decide (uptoBulkAll ds ≤ 1048576)
def OpenSpec.upto (s : _root_.Go.ChangeSpec) : _root_.Go.OpenSpec := { _root_.Go.OpenSpec.ofChange s with cond := some uptoSmall }

/-- 'laws.FnLeastTests', WHERE WHAT IT READS IS OF BULK AT MOST 1048576: true; the input reads as it did. -/
def fnLeastTestsUptoRow : OpenClaim := { program := "ytfkdochnjcpedaadoor", sum := "bc928623b703020efd5f03ccff718d72e0f9633afce88b0ee72aeed7282b9c43", func := "loop.example/g01265/laws.FnLeastTests", spec := "fnLeastTests", inPlace := ["internal/bytealg.IndexByteString", "internal/bytealg.IndexString"], unfollowed := true, recurses := true, named := ["loop.example/g01265/impl.digitBars", "internal/bytealg.MaxLen"], apart := false, laid := [("loop.example/g01265/impl.digitBars", laid_loop_example_g01265_impl_digitBars)], narrowed := true }
def FnLeastTestsUptoSaid : Prop := fnLeastTestsUptoRow.holds Tryd.pinned (OpenSpec.upto fnLeastTestsSpec)

/-- 'laws.FnExactFoundStates', WHERE WHAT IT READS IS OF BULK AT MOST 1048576: true; the input reads as it did. -/
def fnExactFoundStatesUptoRow : OpenClaim := { program := "ytfkdochnjcpedaadoor", sum := "bc928623b703020efd5f03ccff718d72e0f9633afce88b0ee72aeed7282b9c43", func := "loop.example/g01265/laws.FnExactFoundStates", spec := "fnExactFoundStates", inPlace := ["internal/bytealg.IndexByteString", "internal/bytealg.IndexString"], unfollowed := true, recurses := true, named := ["loop.example/g01265/impl.digitBars", "internal/bytealg.MaxLen"], apart := false, laid := [("loop.example/g01265/impl.digitBars", laid_loop_example_g01265_impl_digitBars)], narrowed := true }
def FnExactFoundStatesUptoSaid : Prop := fnExactFoundStatesUptoRow.holds Tryd.pinned (OpenSpec.upto fnExactFoundStatesSpec)

/-- 'laws.FnExactHiddenStates', WHERE WHAT IT READS IS OF BULK AT MOST 1048576: true; the input reads as it did. -/
def fnExactHiddenStatesUptoRow : OpenClaim := { program := "ytfkdochnjcpedaadoor", sum := "bc928623b703020efd5f03ccff718d72e0f9633afce88b0ee72aeed7282b9c43", func := "loop.example/g01265/laws.FnExactHiddenStates", spec := "fnExactHiddenStates", inPlace := ["internal/bytealg.IndexByteString", "internal/bytealg.IndexString"], unfollowed := true, recurses := true, named := ["loop.example/g01265/impl.digitBars", "internal/bytealg.MaxLen"], apart := false, laid := [("loop.example/g01265/impl.digitBars", laid_loop_example_g01265_impl_digitBars)], narrowed := true }
def FnExactHiddenStatesUptoSaid : Prop := fnExactHiddenStatesUptoRow.holds Tryd.pinned (OpenSpec.upto fnExactHiddenStatesSpec)

/-- 'laws.FnExactIsFullTest', WHERE WHAT IT READS IS OF BULK AT MOST 1048576: true; the input reads as it did. -/
def fnExactIsFullTestUptoRow : OpenClaim := { program := "ytfkdochnjcpedaadoor", sum := "bc928623b703020efd5f03ccff718d72e0f9633afce88b0ee72aeed7282b9c43", func := "loop.example/g01265/laws.FnExactIsFullTest", spec := "fnExactIsFullTest", inPlace := ["internal/bytealg.IndexByteString", "internal/bytealg.IndexString"], unfollowed := true, recurses := true, named := ["loop.example/g01265/impl.digitBars", "internal/bytealg.MaxLen"], apart := false, laid := [("loop.example/g01265/impl.digitBars", laid_loop_example_g01265_impl_digitBars)], narrowed := true }
def FnExactIsFullTestUptoSaid : Prop := fnExactIsFullTestUptoRow.holds Tryd.pinned (OpenSpec.upto fnExactIsFullTestSpec)

/-- 'laws.FnExactIsLeastTest', WHERE WHAT IT READS IS OF BULK AT MOST 1048576: true; the input reads as it did. -/
def fnExactIsLeastTestUptoRow : OpenClaim := { program := "ytfkdochnjcpedaadoor", sum := "bc928623b703020efd5f03ccff718d72e0f9633afce88b0ee72aeed7282b9c43", func := "loop.example/g01265/laws.FnExactIsLeastTest", spec := "fnExactIsLeastTest", inPlace := ["internal/bytealg.IndexByteString", "internal/bytealg.IndexString"], unfollowed := true, recurses := true, named := ["loop.example/g01265/impl.digitBars", "internal/bytealg.MaxLen"], apart := false, laid := [("loop.example/g01265/impl.digitBars", laid_loop_example_g01265_impl_digitBars)], narrowed := true }
def FnExactIsLeastTestUptoSaid : Prop := fnExactIsLeastTestUptoRow.holds Tryd.pinned (OpenSpec.upto fnExactIsLeastTestSpec)

/-- 'laws.FnExactCountFullTests', WHERE WHAT IT READS IS OF BULK AT MOST 1048576: true; the input reads as it did. -/
def fnExactCountFullTestsUptoRow : OpenClaim := { program := "ytfkdochnjcpedaadoor", sum := "bc928623b703020efd5f03ccff718d72e0f9633afce88b0ee72aeed7282b9c43", func := "loop.example/g01265/laws.FnExactCountFullTests", spec := "fnExactCountFullTests", inPlace := ["internal/bytealg.IndexByteString", "internal/bytealg.IndexString"], unfollowed := true, recurses := true, named := ["loop.example/g01265/impl.digitBars", "internal/bytealg.MaxLen"], apart := false, laid := [("loop.example/g01265/impl.digitBars", laid_loop_example_g01265_impl_digitBars)], narrowed := true }
def FnExactCountFullTestsUptoSaid : Prop := fnExactCountFullTestsUptoRow.holds Tryd.pinned (OpenSpec.upto fnExactCountFullTestsSpec)

/-- 'laws.FnExactLeastTests', WHERE WHAT IT READS IS OF BULK AT MOST 1048576: true; the input reads as it did. -/
def fnExactLeastTestsUptoRow : OpenClaim := { program := "ytfkdochnjcpedaadoor", sum := "bc928623b703020efd5f03ccff718d72e0f9633afce88b0ee72aeed7282b9c43", func := "loop.example/g01265/laws.FnExactLeastTests", spec := "fnExactLeastTests", inPlace := ["internal/bytealg.IndexByteString", "internal/bytealg.IndexString"], unfollowed := true, recurses := true, named := ["loop.example/g01265/impl.digitBars", "internal/bytealg.MaxLen"], apart := false, laid := [("loop.example/g01265/impl.digitBars", laid_loop_example_g01265_impl_digitBars)], narrowed := true }
def FnExactLeastTestsUptoSaid : Prop := fnExactLeastTestsUptoRow.holds Tryd.pinned (OpenSpec.upto fnExactLeastTestsSpec)

/-- 'laws.FnExactShortestTest', WHERE WHAT IT READS IS OF BULK AT MOST 1048576: true; the input reads as it did. -/
def fnExactShortestTestUptoRow : OpenClaim := { program := "ytfkdochnjcpedaadoor", sum := "bc928623b703020efd5f03ccff718d72e0f9633afce88b0ee72aeed7282b9c43", func := "loop.example/g01265/laws.FnExactShortestTest", spec := "fnExactShortestTest", inPlace := ["internal/bytealg.IndexByteString", "internal/bytealg.IndexString"], unfollowed := true, recurses := true, named := ["loop.example/g01265/impl.digitBars", "internal/bytealg.MaxLen"], apart := false, laid := [("loop.example/g01265/impl.digitBars", laid_loop_example_g01265_impl_digitBars)], narrowed := true }
def FnExactShortestTestUptoSaid : Prop := fnExactShortestTestUptoRow.holds Tryd.pinned (OpenSpec.upto fnExactShortestTestSpec)

end Rows
end Go.Proofs.YtfkdochnjcpedaaDoor
