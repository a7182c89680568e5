/-
  NARROWER THAN 'FOR EVERY INPUT', by the rows' own cells (each row's printed sentence says how): FnFlicker: laid · FnExactChanceNoDigit: laid · FnExactChancesFor: laid.
  DERIVED. THE GIVEN ROWS OF THIS SEAT. 3 by the template 'for every input the law returns true; each argument reads behind the call as it read before'; 0 by the template 'total and deterministic' (their statements: YtmjgkhfjhedpkaaDoorTotals.lean).
  GIVEN WITH THE SEED: the statements are not yours to turn. If you find one false, say at which input.
  Laid BY PROGRAM, IN A SANDBOX (cutbox-rows.mjs): the forced cells as the released guide's own fill.sh prints them over the translation dc6ea8c067d6ccb7… (all of the seat's roots in one cut). By AI agents, Wed Nov 11 2026. No macro, syntax, notation, axiom, sorry.
-/
import Derived.Test.YtmjgkhfjhedpkaaDoorChecked
import GoSem.Claim
import GoSem.ClaimJoined
import GoSem.ClaimMapViews
import Derived.JoinedTies
import Derived.KernelRfl
namespace Go.Proofs.YtmjgkhfjhedpkaaDoor
/- THE CELL 'sum', in the pinned program and in every row, IS THE sha256 OF THE DUMP (.gsa) THAT YtmjgkhfjhedpkaaDoorProg.lean LOADS. Nothing in Lean hashes anything: it is a label: what it is worth is what the hold of that sum in a sandbox is worth. -/
noncomputable def Tryd.pinned : Pinned := { name := "ytmjgkhfjhedpkaadoor", sum := "dc6ea8c067d6ccb7c3b022785693e8f186e86a05b87417d17a9d32b5622d5077", checked := Tryd.checked }
namespace Rows
def none {H : Type} : Left H := { results := [], args := [] }

/- WHAT THE LISTED PACKAGE-LEVEL VARIABLES READ AS WHEN THE CALL BEGINS. Each datum BY PROGRAM (the guide's laid-datum.mjs) off the statement by which the dump's own 'gosem.cut.vars' lays the variable. In a bare row this is a premise. The card (YtmjgkhfjhedpkaaDoorCards.lean) ties it to the program's text. -/
def laid_loop_example_g01265_impl_digitBars {H : Type} : DataW H := .agg [.lit (.string [97, 98, 99, 100, 101, 102]), .lit (.string [98, 99]), .lit (.string [97, 98, 100, 101, 103]), .lit (.string [97, 98, 99, 100, 103]), .lit (.string [98, 99, 102, 103]), .lit (.string [97, 99, 100, 102, 103]), .lit (.string [97, 99, 100, 101, 102, 103]), .lit (.string [97, 98, 99]), .lit (.string [97, 98, 99, 100, 101, 102, 103]), .lit (.string [97, 98, 99, 100, 102, 103])]
def laid_loop_example_g01265_impl_never {H : Type} : DataW H := .agg [.lit (.int .i64 0), .lit (.int .i64 1)]

/-- 'laws.FnFlicker': WHATEVER THE INPUT: true; the input reads as it did. -/
def fnFlickerSpec : ChangeSpec := { name := "fnFlicker", vars := ["loop.example/g01265/impl.digitBars", "loop.example/g01265/impl.never"], fn := fun _ => fun
  | [d, g1, g2] => { results := [.lit (.bool true)], args := [d], vars := [g1, g2] }
  | _ => none }
def fnFlickerRow : OpenClaim := { program := "ytmjgkhfjhedpkaadoor", sum := "dc6ea8c067d6ccb7c3b022785693e8f186e86a05b87417d17a9d32b5622d5077", func := "loop.example/g01265/laws.FnFlicker", spec := "fnFlicker", inPlace := ["internal/bytealg.IndexByteString", "internal/bytealg.IndexString"], named := ["loop.example/g01265/impl.digitBars", "loop.example/g01265/impl.never", "internal/bytealg.MaxLen"], apart := false, laid := [("loop.example/g01265/impl.digitBars", laid_loop_example_g01265_impl_digitBars), ("loop.example/g01265/impl.never", laid_loop_example_g01265_impl_never)] }
def FnFlickerSaid : Prop := fnFlickerRow.holds Tryd.pinned (OpenSpec.ofChange fnFlickerSpec)

/-- ITS FALSE NEIGHBOUR: 'it returns false'. Refute it at one input. -/
def fnFlickerWrong : ChangeSpec := { name := "fnFlicker", vars := ["loop.example/g01265/impl.digitBars", "loop.example/g01265/impl.never"], fn := fun _ => fun
  | [d, g1, g2] => { results := [.lit (.bool false)], args := [d], vars := [g1, g2] }
  | _ => none }
def FnFlickerWrongFalsely : Prop := fnFlickerRow.holds Tryd.pinned (OpenSpec.ofChange fnFlickerWrong)

/-- 'laws.FnExactChanceNoDigit': WHATEVER THE INPUT: true; the input reads as it did. -/
def fnExactChanceNoDigitSpec : ChangeSpec := { name := "fnExactChanceNoDigit", vars := ["loop.example/g01265/impl.digitBars", "loop.example/g01265/impl.never"], fn := fun _ => fun
  | [d1, d2, d3, g1, g2] => { results := [.lit (.bool true)], args := [d1, d2, d3], vars := [g1, g2] }
  | _ => none }
def fnExactChanceNoDigitRow : OpenClaim := { program := "ytmjgkhfjhedpkaadoor", sum := "dc6ea8c067d6ccb7c3b022785693e8f186e86a05b87417d17a9d32b5622d5077", func := "loop.example/g01265/laws.FnExactChanceNoDigit", spec := "fnExactChanceNoDigit", inPlace := ["internal/bytealg.IndexByteString", "internal/bytealg.IndexString"], named := ["loop.example/g01265/impl.digitBars", "loop.example/g01265/impl.never", "internal/bytealg.MaxLen"], apart := false, laid := [("loop.example/g01265/impl.digitBars", laid_loop_example_g01265_impl_digitBars), ("loop.example/g01265/impl.never", laid_loop_example_g01265_impl_never)] }
def FnExactChanceNoDigitSaid : Prop := fnExactChanceNoDigitRow.holds Tryd.pinned (OpenSpec.ofChange fnExactChanceNoDigitSpec)

/-- ITS FALSE NEIGHBOUR: 'it returns false'. Refute it at one input. -/
def fnExactChanceNoDigitWrong : ChangeSpec := { name := "fnExactChanceNoDigit", vars := ["loop.example/g01265/impl.digitBars", "loop.example/g01265/impl.never"], fn := fun _ => fun
  | [d1, d2, d3, g1, g2] => { results := [.lit (.bool false)], args := [d1, d2, d3], vars := [g1, g2] }
  | _ => none }
def FnExactChanceNoDigitWrongFalsely : Prop := fnExactChanceNoDigitRow.holds Tryd.pinned (OpenSpec.ofChange fnExactChanceNoDigitWrong)

/-- 'laws.FnExactChancesFor': WHATEVER THE INPUT: true; the input reads as it did. -/
def fnExactChancesForSpec : ChangeSpec := { name := "fnExactChancesFor", vars := ["loop.example/g01265/impl.never", "loop.example/g01265/impl.digitBars"], fn := fun _ => fun
  | [d1, d2, d3, g1, g2] => { results := [.lit (.bool true)], args := [d1, d2, d3], vars := [g1, g2] }
  | _ => none }
def fnExactChancesForRow : OpenClaim := { program := "ytmjgkhfjhedpkaadoor", sum := "dc6ea8c067d6ccb7c3b022785693e8f186e86a05b87417d17a9d32b5622d5077", func := "loop.example/g01265/laws.FnExactChancesFor", spec := "fnExactChancesFor", inPlace := ["internal/bytealg.IndexByteString", "internal/bytealg.IndexString"], named := ["loop.example/g01265/impl.never", "loop.example/g01265/impl.digitBars", "internal/bytealg.MaxLen"], apart := false, laid := [("loop.example/g01265/impl.digitBars", laid_loop_example_g01265_impl_digitBars), ("loop.example/g01265/impl.never", laid_loop_example_g01265_impl_never)] }
def FnExactChancesForSaid : Prop := fnExactChancesForRow.holds Tryd.pinned (OpenSpec.ofChange fnExactChancesForSpec)

/-- ITS FALSE NEIGHBOUR: 'it returns false'. Refute it at one input. -/
def fnExactChancesForWrong : ChangeSpec := { name := "fnExactChancesFor", vars := ["loop.example/g01265/impl.never", "loop.example/g01265/impl.digitBars"], fn := fun _ => fun
  | [d1, d2, d3, g1, g2] => { results := [.lit (.bool false)], args := [d1, d2, d3], vars := [g1, g2] }
  | _ => none }
def FnExactChancesForWrongFalsely : Prop := fnExactChancesForRow.holds Tryd.pinned (OpenSpec.ofChange fnExactChancesForWrong)

/- THE SECOND FORM. 'bulk': how many values and letters a reading holds, each counted each time it is reached (what is shared counts as often as it is met; a slice's spare places count too). A statement '..UptoSaid' is the law's where the arguments, and the package variables that the reading takes, are together of bulk at most 1048576: NARROWER than '..Said'. Prove '..Said' where nothing that the law and all that it calls make is longer than what came in: it says more and counts as full. Else prove '..UptoSaid'. A law counts once. -/
mutual
def uptoBulk {H : Type} : DataW H → Nat
  | .lit (.string bytes) => bytes.length + 1
  | .lit _ => 1
  | .nil => 1
  | .ptr d => uptoBulk d + 1
  | .slice elems spare => uptoBulkAll elems + uptoBulkAll spare + 1
  | .agg parts => uptoBulkAll parts + 1
  | .iface _ d => uptoBulk d + 1
  | .map entries => uptoBulkEntries entries + 1
  | .held _ => 1
def uptoBulkAll {H : Type} : List (DataW H) → Nat
  | [] => 0
  | d :: r => uptoBulk d + uptoBulkAll r
def uptoBulkEntries {H : Type} : List (Lit × DataW H) → Nat
  | [] => 0
  | x :: r => uptoBulkEntry x + uptoBulkEntries r
def uptoBulkEntry {H : Type} : Lit × DataW H → Nat
  | (.string bytes, d) => bytes.length + uptoBulk d + 1
  | (_, d) => uptoBulk d + 1
 end
def uptoSmall : (H : Type) → List (DataW H) → Bool := fun _ ds => decide (uptoBulkAll ds ≤ 1048576)
def OpenSpec.upto (s : _root_.Go.ChangeSpec) : _root_.Go.OpenSpec := { _root_.Go.OpenSpec.ofChange s with cond := some uptoSmall }

/-- 'laws.FnFlicker', WHERE WHAT IT READS IS OF BULK AT MOST 1048576: true; the input reads as it did. -/
def fnFlickerUptoRow : OpenClaim := { program := "ytmjgkhfjhedpkaadoor", sum := "dc6ea8c067d6ccb7c3b022785693e8f186e86a05b87417d17a9d32b5622d5077", func := "loop.example/g01265/laws.FnFlicker", spec := "fnFlicker", inPlace := ["internal/bytealg.IndexByteString", "internal/bytealg.IndexString"], named := ["loop.example/g01265/impl.digitBars", "loop.example/g01265/impl.never", "internal/bytealg.MaxLen"], apart := false, laid := [("loop.example/g01265/impl.digitBars", laid_loop_example_g01265_impl_digitBars), ("loop.example/g01265/impl.never", laid_loop_example_g01265_impl_never)], narrowed := true }
def FnFlickerUptoSaid : Prop := fnFlickerUptoRow.holds Tryd.pinned (OpenSpec.upto fnFlickerSpec)

/-- 'laws.FnExactChanceNoDigit', WHERE WHAT IT READS IS OF BULK AT MOST 1048576: true; the input reads as it did. -/
def fnExactChanceNoDigitUptoRow : OpenClaim := { program := "ytmjgkhfjhedpkaadoor", sum := "dc6ea8c067d6ccb7c3b022785693e8f186e86a05b87417d17a9d32b5622d5077", func := "loop.example/g01265/laws.FnExactChanceNoDigit", spec := "fnExactChanceNoDigit", inPlace := ["internal/bytealg.IndexByteString", "internal/bytealg.IndexString"], named := ["loop.example/g01265/impl.digitBars", "loop.example/g01265/impl.never", "internal/bytealg.MaxLen"], apart := false, laid := [("loop.example/g01265/impl.digitBars", laid_loop_example_g01265_impl_digitBars), ("loop.example/g01265/impl.never", laid_loop_example_g01265_impl_never)], narrowed := true }
def FnExactChanceNoDigitUptoSaid : Prop := fnExactChanceNoDigitUptoRow.holds Tryd.pinned (OpenSpec.upto fnExactChanceNoDigitSpec)

/-- 'laws.FnExactChancesFor', WHERE WHAT IT READS IS OF BULK AT MOST 1048576: true; the input reads as it did. -/
def fnExactChancesForUptoRow : OpenClaim := { program := "ytmjgkhfjhedpkaadoor", sum := "dc6ea8c067d6ccb7c3b022785693e8f186e86a05b87417d17a9d32b5622d5077", func := "loop.example/g01265/laws.FnExactChancesFor", spec := "fnExactChancesFor", inPlace := ["internal/bytealg.IndexByteString", "internal/bytealg.IndexString"], named := ["loop.example/g01265/impl.never", "loop.example/g01265/impl.digitBars", "internal/bytealg.MaxLen"], apart := false, laid := [("loop.example/g01265/impl.digitBars", laid_loop_example_g01265_impl_digitBars), ("loop.example/g01265/impl.never", laid_loop_example_g01265_impl_never)], narrowed := true }
def FnExactChancesForUptoSaid : Prop := fnExactChancesForUptoRow.holds Tryd.pinned (OpenSpec.upto fnExactChancesForSpec)

end Rows
end Go.Proofs.YtmjgkhfjhedpkaaDoor
