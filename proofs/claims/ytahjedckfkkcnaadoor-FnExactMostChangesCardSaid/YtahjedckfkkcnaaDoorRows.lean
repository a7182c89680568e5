/-
  NARROWER THAN 'FOR EVERY INPUT', by the rows' own cells (each row's printed sentence says how): FnExactCounterRow: laid · FnExactStepChanges: laid · FnExactRunChanges: laid · FnExactWearOf: laid · FnExactLightOf: laid · FnExactMostChanges: laid · FnExactFirstOver: laid · FnCounters: laid.
  DERIVED. THE GIVEN ROWS OF THIS SEAT. 8 by the template 'for every input the law returns true; each argument reads behind the call as it read before'; 0 by the template 'total and deterministic' (their statements: YtahjedckfkkcnaaDoorTotals.lean).
  GIVEN WITH THE SEED: the statements are not yours to turn. If you find one false, say at which input.
  Laid BY PROGRAM, IN A SANDBOX (cutbox-rows.mjs): the forced cells as the released guide's own fill.sh prints them over the translation 02c6e21dca0b2416… (all of the seat's roots in one cut). By AI agents, Wed Nov 11 2026. No macro, syntax, notation, axiom, sorry.
-/
import Derived.Test.YtahjedckfkkcnaaDoorChecked
import GoSem.Claim
import GoSem.ClaimJoined
import GoSem.ClaimMapViews
import Derived.JoinedTies
import Derived.KernelRfl
namespace Go.Proofs.YtahjedckfkkcnaaDoor
/- THE CELL 'sum', in the pinned program and in every row, IS THE sha256 OF THE DUMP (.gsa) THAT YtahjedckfkkcnaaDoorProg.lean LOADS. Nothing in Lean hashes anything: it is a label: what it is worth is what the hold of that sum in a sandbox is worth. -/
noncomputable def Tryd.pinned : Pinned := { name := "ytahjedckfkkcnaadoor", sum := "02c6e21dca0b2416c1dfe41e8aafd080ed0afdd8e6892e70d416f191eabdd304", checked := Tryd.checked }
namespace Rows
def none {H : Type} : Left H := { results := [], args := [] }

/- WHAT THE LISTED PACKAGE-LEVEL VARIABLES READ AS WHEN THE CALL BEGINS. Each datum BY PROGRAM (the guide's laid-datum.mjs) off the statement by which the dump's own 'gosem.cut.vars' lays the variable. In a bare row this is a premise. The card (YtahjedckfkkcnaaDoorCards.lean) ties it to the program's text. -/
def laid_loop_example_g01265_impl_digitBars {H : Type} : DataW H := .agg [.lit (.string [97, 98, 99, 100, 101, 102]), .lit (.string [98, 99]), .lit (.string [97, 98, 100, 101, 103]), .lit (.string [97, 98, 99, 100, 103]), .lit (.string [98, 99, 102, 103]), .lit (.string [97, 99, 100, 102, 103]), .lit (.string [97, 99, 100, 101, 102, 103]), .lit (.string [97, 98, 99]), .lit (.string [97, 98, 99, 100, 101, 102, 103]), .lit (.string [97, 98, 99, 100, 102, 103])]

/-- 'laws.FnExactCounterRow': WHATEVER THE INPUT: true; the input reads as it did. -/
def fnExactCounterRowSpec : ChangeSpec := { name := "fnExactCounterRow", vars := ["loop.example/g01265/impl.digitBars"], fn := fun _ => fun
  | [d1, d2, g1] => { results := [.lit (.bool true)], args := [d1, d2], vars := [g1] }
  | _ => none }
def fnExactCounterRowRow : OpenClaim := { program := "ytahjedckfkkcnaadoor", sum := "02c6e21dca0b2416c1dfe41e8aafd080ed0afdd8e6892e70d416f191eabdd304", func := "loop.example/g01265/laws.FnExactCounterRow", spec := "fnExactCounterRow", inPlace := ["internal/bytealg.IndexByteString", "internal/bytealg.IndexString"], named := ["loop.example/g01265/impl.digitBars", "internal/bytealg.MaxLen"], apart := false, laid := [("loop.example/g01265/impl.digitBars", laid_loop_example_g01265_impl_digitBars)] }
def FnExactCounterRowSaid : Prop := fnExactCounterRowRow.holds Tryd.pinned (OpenSpec.ofChange fnExactCounterRowSpec)

/-- ITS FALSE NEIGHBOUR: 'it returns false'. Refute it at one input. -/
def fnExactCounterRowWrong : ChangeSpec := { name := "fnExactCounterRow", vars := ["loop.example/g01265/impl.digitBars"], fn := fun _ => fun
  | [d1, d2, g1] => { results := [.lit (.bool false)], args := [d1, d2], vars := [g1] }
  | _ => none }
def FnExactCounterRowWrongFalsely : Prop := fnExactCounterRowRow.holds Tryd.pinned (OpenSpec.ofChange fnExactCounterRowWrong)

/-- 'laws.FnExactStepChanges': WHATEVER THE INPUT: true; the input reads as it did. -/
def fnExactStepChangesSpec : ChangeSpec := { name := "fnExactStepChanges", vars := ["loop.example/g01265/impl.digitBars"], fn := fun _ => fun
  | [d1, d2, g1] => { results := [.lit (.bool true)], args := [d1, d2], vars := [g1] }
  | _ => none }
def fnExactStepChangesRow : OpenClaim := { program := "ytahjedckfkkcnaadoor", sum := "02c6e21dca0b2416c1dfe41e8aafd080ed0afdd8e6892e70d416f191eabdd304", func := "loop.example/g01265/laws.FnExactStepChanges", spec := "fnExactStepChanges", inPlace := ["internal/bytealg.IndexByteString", "internal/bytealg.IndexString"], named := ["loop.example/g01265/impl.digitBars", "internal/bytealg.MaxLen"], apart := false, laid := [("loop.example/g01265/impl.digitBars", laid_loop_example_g01265_impl_digitBars)] }
def FnExactStepChangesSaid : Prop := fnExactStepChangesRow.holds Tryd.pinned (OpenSpec.ofChange fnExactStepChangesSpec)

/-- ITS FALSE NEIGHBOUR: 'it returns false'. Refute it at one input. -/
def fnExactStepChangesWrong : ChangeSpec := { name := "fnExactStepChanges", vars := ["loop.example/g01265/impl.digitBars"], fn := fun _ => fun
  | [d1, d2, g1] => { results := [.lit (.bool false)], args := [d1, d2], vars := [g1] }
  | _ => none }
def FnExactStepChangesWrongFalsely : Prop := fnExactStepChangesRow.holds Tryd.pinned (OpenSpec.ofChange fnExactStepChangesWrong)

/-- 'laws.FnExactRunChanges': WHATEVER THE INPUT: true; the input reads as it did. -/
def fnExactRunChangesSpec : ChangeSpec := { name := "fnExactRunChanges", vars := ["loop.example/g01265/impl.digitBars"], fn := fun _ => fun
  | [d1, d2, d3, g1] => { results := [.lit (.bool true)], args := [d1, d2, d3], vars := [g1] }
  | _ => none }
def fnExactRunChangesRow : OpenClaim := { program := "ytahjedckfkkcnaadoor", sum := "02c6e21dca0b2416c1dfe41e8aafd080ed0afdd8e6892e70d416f191eabdd304", func := "loop.example/g01265/laws.FnExactRunChanges", spec := "fnExactRunChanges", inPlace := ["internal/bytealg.IndexByteString", "internal/bytealg.IndexString"], unfollowed := true, recurses := true, named := ["loop.example/g01265/impl.digitBars", "internal/bytealg.MaxLen"], apart := false, laid := [("loop.example/g01265/impl.digitBars", laid_loop_example_g01265_impl_digitBars)] }
def FnExactRunChangesSaid : Prop := fnExactRunChangesRow.holds Tryd.pinned (OpenSpec.ofChange fnExactRunChangesSpec)

/-- ITS FALSE NEIGHBOUR: 'it returns false'. Refute it at one input. -/
def fnExactRunChangesWrong : ChangeSpec := { name := "fnExactRunChanges", vars := ["loop.example/g01265/impl.digitBars"], fn := fun _ => fun
  | [d1, d2, d3, g1] => { results := [.lit (.bool false)], args := [d1, d2, d3], vars := [g1] }
  | _ => none }
def FnExactRunChangesWrongFalsely : Prop := fnExactRunChangesRow.holds Tryd.pinned (OpenSpec.ofChange fnExactRunChangesWrong)

/-- 'laws.FnExactWearOf': WHATEVER THE INPUT: true; the input reads as it did. -/
def fnExactWearOfSpec : ChangeSpec := { name := "fnExactWearOf", vars := ["loop.example/g01265/impl.digitBars"], fn := fun _ => fun
  | [d1, d2, d3, g1] => { results := [.lit (.bool true)], args := [d1, d2, d3], vars := [g1] }
  | _ => none }
def fnExactWearOfRow : OpenClaim := { program := "ytahjedckfkkcnaadoor", sum := "02c6e21dca0b2416c1dfe41e8aafd080ed0afdd8e6892e70d416f191eabdd304", func := "loop.example/g01265/laws.FnExactWearOf", spec := "fnExactWearOf", inPlace := ["internal/bytealg.IndexByteString", "internal/bytealg.IndexString"], unfollowed := true, recurses := true, named := ["loop.example/g01265/impl.digitBars", "internal/bytealg.MaxLen"], apart := false, laid := [("loop.example/g01265/impl.digitBars", laid_loop_example_g01265_impl_digitBars)] }
def FnExactWearOfSaid : Prop := fnExactWearOfRow.holds Tryd.pinned (OpenSpec.ofChange fnExactWearOfSpec)

/-- ITS FALSE NEIGHBOUR: 'it returns false'. Refute it at one input. -/
def fnExactWearOfWrong : ChangeSpec := { name := "fnExactWearOf", vars := ["loop.example/g01265/impl.digitBars"], fn := fun _ => fun
  | [d1, d2, d3, g1] => { results := [.lit (.bool false)], args := [d1, d2, d3], vars := [g1] }
  | _ => none }
def FnExactWearOfWrongFalsely : Prop := fnExactWearOfRow.holds Tryd.pinned (OpenSpec.ofChange fnExactWearOfWrong)

/-- 'laws.FnExactLightOf': WHATEVER THE INPUT: true; the input reads as it did. -/
def fnExactLightOfSpec : ChangeSpec := { name := "fnExactLightOf", vars := ["loop.example/g01265/impl.digitBars"], fn := fun _ => fun
  | [d1, d2, d3, g1] => { results := [.lit (.bool true)], args := [d1, d2, d3], vars := [g1] }
  | _ => none }
def fnExactLightOfRow : OpenClaim := { program := "ytahjedckfkkcnaadoor", sum := "02c6e21dca0b2416c1dfe41e8aafd080ed0afdd8e6892e70d416f191eabdd304", func := "loop.example/g01265/laws.FnExactLightOf", spec := "fnExactLightOf", inPlace := ["internal/bytealg.IndexByteString", "internal/bytealg.IndexString"], unfollowed := true, recurses := true, named := ["loop.example/g01265/impl.digitBars", "internal/bytealg.MaxLen"], apart := false, laid := [("loop.example/g01265/impl.digitBars", laid_loop_example_g01265_impl_digitBars)] }
def FnExactLightOfSaid : Prop := fnExactLightOfRow.holds Tryd.pinned (OpenSpec.ofChange fnExactLightOfSpec)

/-- ITS FALSE NEIGHBOUR: 'it returns false'. Refute it at one input. -/
def fnExactLightOfWrong : ChangeSpec := { name := "fnExactLightOf", vars := ["loop.example/g01265/impl.digitBars"], fn := fun _ => fun
  | [d1, d2, d3, g1] => { results := [.lit (.bool false)], args := [d1, d2, d3], vars := [g1] }
  | _ => none }
def FnExactLightOfWrongFalsely : Prop := fnExactLightOfRow.holds Tryd.pinned (OpenSpec.ofChange fnExactLightOfWrong)

/-- 'laws.FnExactMostChanges': WHATEVER THE INPUT: true; the input reads as it did. -/
def fnExactMostChangesSpec : ChangeSpec := { name := "fnExactMostChanges", vars := ["loop.example/g01265/impl.digitBars"], fn := fun _ => fun
  | [d, g1] => { results := [.lit (.bool true)], args := [d], vars := [g1] }
  | _ => none }
def fnExactMostChangesRow : OpenClaim := { program := "ytahjedckfkkcnaadoor", sum := "02c6e21dca0b2416c1dfe41e8aafd080ed0afdd8e6892e70d416f191eabdd304", func := "loop.example/g01265/laws.FnExactMostChanges", spec := "fnExactMostChanges", inPlace := ["internal/bytealg.IndexByteString", "internal/bytealg.IndexString"], named := ["loop.example/g01265/impl.digitBars", "internal/bytealg.MaxLen"], apart := false, laid := [("loop.example/g01265/impl.digitBars", laid_loop_example_g01265_impl_digitBars)] }
def FnExactMostChangesSaid : Prop := fnExactMostChangesRow.holds Tryd.pinned (OpenSpec.ofChange fnExactMostChangesSpec)

/-- ITS FALSE NEIGHBOUR: 'it returns false'. Refute it at one input. -/
def fnExactMostChangesWrong : ChangeSpec := { name := "fnExactMostChanges", vars := ["loop.example/g01265/impl.digitBars"], fn := fun _ => fun
  | [d, g1] => { results := [.lit (.bool false)], args := [d], vars := [g1] }
  | _ => none }
def FnExactMostChangesWrongFalsely : Prop := fnExactMostChangesRow.holds Tryd.pinned (OpenSpec.ofChange fnExactMostChangesWrong)

/-- 'laws.FnExactFirstOver': WHATEVER THE INPUT: true; the input reads as it did. -/
def fnExactFirstOverSpec : ChangeSpec := { name := "fnExactFirstOver", vars := ["loop.example/g01265/impl.digitBars"], fn := fun _ => fun
  | [d1, d2, d3, g1] => { results := [.lit (.bool true)], args := [d1, d2, d3], vars := [g1] }
  | _ => none }
def fnExactFirstOverRow : OpenClaim := { program := "ytahjedckfkkcnaadoor", sum := "02c6e21dca0b2416c1dfe41e8aafd080ed0afdd8e6892e70d416f191eabdd304", func := "loop.example/g01265/laws.FnExactFirstOver", spec := "fnExactFirstOver", inPlace := ["internal/bytealg.IndexByteString", "internal/bytealg.IndexString"], unfollowed := true, recurses := true, named := ["loop.example/g01265/impl.digitBars", "internal/bytealg.MaxLen"], apart := false, laid := [("loop.example/g01265/impl.digitBars", laid_loop_example_g01265_impl_digitBars)] }
def FnExactFirstOverSaid : Prop := fnExactFirstOverRow.holds Tryd.pinned (OpenSpec.ofChange fnExactFirstOverSpec)

/-- ITS FALSE NEIGHBOUR: 'it returns false'. Refute it at one input. -/
def fnExactFirstOverWrong : ChangeSpec := { name := "fnExactFirstOver", vars := ["loop.example/g01265/impl.digitBars"], fn := fun _ => fun
  | [d1, d2, d3, g1] => { results := [.lit (.bool false)], args := [d1, d2, d3], vars := [g1] }
  | _ => none }
def FnExactFirstOverWrongFalsely : Prop := fnExactFirstOverRow.holds Tryd.pinned (OpenSpec.ofChange fnExactFirstOverWrong)

/-- 'laws.FnCounters': WHATEVER THE INPUT: true; the input reads as it did. -/
def fnCountersSpec : ChangeSpec := { name := "fnCounters", vars := ["loop.example/g01265/impl.digitBars"], fn := fun _ => fun
  | [d, g1] => { results := [.lit (.bool true)], args := [d], vars := [g1] }
  | _ => none }
def fnCountersRow : OpenClaim := { program := "ytahjedckfkkcnaadoor", sum := "02c6e21dca0b2416c1dfe41e8aafd080ed0afdd8e6892e70d416f191eabdd304", func := "loop.example/g01265/laws.FnCounters", spec := "fnCounters", inPlace := ["internal/bytealg.IndexByteString", "internal/bytealg.IndexString"], unfollowed := true, recurses := true, named := ["loop.example/g01265/impl.digitBars", "internal/bytealg.MaxLen"], apart := false, laid := [("loop.example/g01265/impl.digitBars", laid_loop_example_g01265_impl_digitBars)] }
def FnCountersSaid : Prop := fnCountersRow.holds Tryd.pinned (OpenSpec.ofChange fnCountersSpec)

/-- ITS FALSE NEIGHBOUR: 'it returns false'. Refute it at one input. -/
def fnCountersWrong : ChangeSpec := { name := "fnCounters", vars := ["loop.example/g01265/impl.digitBars"], fn := fun _ => fun
  | [d, g1] => { results := [.lit (.bool false)], args := [d], vars := [g1] }
  | _ => none }
def FnCountersWrongFalsely : Prop := fnCountersRow.holds Tryd.pinned (OpenSpec.ofChange fnCountersWrong)

/- THE SECOND FORM. 'bulk': how many values and letters a reading holds, each counted each time it is reached (what is shared counts as often as it is met; a slice's spare places count too). A statement '..UptoSaid' is the law's where the arguments, and the package variables that the reading takes, are together of bulk at most 1048576: NARROWER than '..Said'. Prove '..Said' where nothing that the law and all that it calls make is longer than what came in: it says more and counts as full. Else prove '..UptoSaid'. A law counts once. -/
mutual
def uptoBulk {H : Type} : DataW H → Nat
  | .lit (.string bytes) => bytes.length + 1
  | .lit _ => 1
  | .nil => 1
  | .ptr d => uptoBulk d + 1
  | .slice elems spare => uptoBulkAll elems + uptoBulkAll spare + 1
  | .agg parts => uptoBulkAll parts + 1
  | .iface _ d => uptoBulk d + 1
  | .map entries => uptoBulkEntries entries + 1
  | .held _ => 1
def uptoBulkAll {H : Type} : List (DataW H) → Nat
  | [] => 0
  | d :: r => uptoBulk d + uptoBulkAll r
def uptoBulkEntries {H : Type} : List (Lit × DataW H) → Nat
  | [] => 0
  | x :: r => uptoBulkEntry x + uptoBulkEntries r
def uptoBulkEntry {H : Type} : Lit × DataW H → Nat
  | (.string bytes, d) => bytes.length + uptoBulk d + 1
  | (_, d) => uptoBulk d + 1
 end
def uptoSmall : (H : Type) → List (DataW H) → Bool := fun _ ds => decide (uptoBulkAll ds ≤ 1048576)
def OpenSpec.upto (s : _root_.Go.ChangeSpec) : _root_.Go.OpenSpec := { _root_.Go.OpenSpec.ofChange s with cond := some uptoSmall }

/-- 'laws.FnExactCounterRow', WHERE WHAT IT READS IS OF BULK AT MOST 1048576: true; the input reads as it did. -/
def fnExactCounterRowUptoRow : OpenClaim := { program := "ytahjedckfkkcnaadoor", sum := "02c6e21dca0b2416c1dfe41e8aafd080ed0afdd8e6892e70d416f191eabdd304", func := "loop.example/g01265/laws.FnExactCounterRow", spec := "fnExactCounterRow", inPlace := ["internal/bytealg.IndexByteString", "internal/bytealg.IndexString"], named := ["loop.example/g01265/impl.digitBars", "internal/bytealg.MaxLen"], apart := false, laid := [("loop.example/g01265/impl.digitBars", laid_loop_example_g01265_impl_digitBars)], narrowed := true }
def FnExactCounterRowUptoSaid : Prop := fnExactCounterRowUptoRow.holds Tryd.pinned (OpenSpec.upto fnExactCounterRowSpec)

/-- 'laws.FnExactStepChanges', WHERE WHAT IT READS IS OF BULK AT MOST 1048576: true; the input reads as it did. -/
def fnExactStepChangesUptoRow : OpenClaim := { program := "ytahjedckfkkcnaadoor", sum := "02c6e21dca0b2416c1dfe41e8aafd080ed0afdd8e6892e70d416f191eabdd304", func := "loop.example/g01265/laws.FnExactStepChanges", spec := "fnExactStepChanges", inPlace := ["internal/bytealg.IndexByteString", "internal/bytealg.IndexString"], named := ["loop.example/g01265/impl.digitBars", "internal/bytealg.MaxLen"], apart := false, laid := [("loop.example/g01265/impl.digitBars", laid_loop_example_g01265_impl_digitBars)], narrowed := true }
def FnExactStepChangesUptoSaid : Prop := fnExactStepChangesUptoRow.holds Tryd.pinned (OpenSpec.upto fnExactStepChangesSpec)

/-- 'laws.FnExactRunChanges', WHERE WHAT IT READS IS OF BULK AT MOST 1048576: true; the input reads as it did. -/
def fnExactRunChangesUptoRow : OpenClaim := { program := "ytahjedckfkkcnaadoor", sum := "02c6e21dca0b2416c1dfe41e8aafd080ed0afdd8e6892e70d416f191eabdd304", func := "loop.example/g01265/laws.FnExactRunChanges", spec := "fnExactRunChanges", inPlace := ["internal/bytealg.IndexByteString", "internal/bytealg.IndexString"], unfollowed := true, recurses := true, named := ["loop.example/g01265/impl.digitBars", "internal/bytealg.MaxLen"], apart := false, laid := [("loop.example/g01265/impl.digitBars", laid_loop_example_g01265_impl_digitBars)], narrowed := true }
def FnExactRunChangesUptoSaid : Prop := fnExactRunChangesUptoRow.holds Tryd.pinned (OpenSpec.upto fnExactRunChangesSpec)

/-- 'laws.FnExactWearOf', WHERE WHAT IT READS IS OF BULK AT MOST 1048576: true; the input reads as it did. -/
def fnExactWearOfUptoRow : OpenClaim := { program := "ytahjedckfkkcnaadoor", sum := "02c6e21dca0b2416c1dfe41e8aafd080ed0afdd8e6892e70d416f191eabdd304", func := "loop.example/g01265/laws.FnExactWearOf", spec := "fnExactWearOf", inPlace := ["internal/bytealg.IndexByteString", "internal/bytealg.IndexString"], unfollowed := true, recurses := true, named := ["loop.example/g01265/impl.digitBars", "internal/bytealg.MaxLen"], apart := false, laid := [("loop.example/g01265/impl.digitBars", laid_loop_example_g01265_impl_digitBars)], narrowed := true }
def FnExactWearOfUptoSaid : Prop := fnExactWearOfUptoRow.holds Tryd.pinned (OpenSpec.upto fnExactWearOfSpec)

/-- 'laws.FnExactLightOf', WHERE WHAT IT READS IS OF BULK AT MOST 1048576: true; the input reads as it did. -/
def fnExactLightOfUptoRow : OpenClaim := { program := "ytahjedckfkkcnaadoor", sum := "02c6e21dca0b2416c1dfe41e8aafd080ed0afdd8e6892e70d416f191eabdd304", func := "loop.example/g01265/laws.FnExactLightOf", spec := "fnExactLightOf", inPlace := ["internal/bytealg.IndexByteString", "internal/bytealg.IndexString"], unfollowed := true, recurses := true, named := ["loop.example/g01265/impl.digitBars", "internal/bytealg.MaxLen"], apart := false, laid := [("loop.example/g01265/impl.digitBars", laid_loop_example_g01265_impl_digitBars)], narrowed := true }
def FnExactLightOfUptoSaid : Prop := fnExactLightOfUptoRow.holds Tryd.pinned (OpenSpec.upto fnExactLightOfSpec)

/-- 'laws.FnExactMostChanges', WHERE WHAT IT READS IS OF BULK AT MOST 1048576: true; the input reads as it did. -/
def fnExactMostChangesUptoRow : OpenClaim := { program := "ytahjedckfkkcnaadoor", sum := "02c6e21dca0b2416c1dfe41e8aafd080ed0afdd8e6892e70d416f191eabdd304", func := "loop.example/g01265/laws.FnExactMostChanges", spec := "fnExactMostChanges", inPlace := ["internal/bytealg.IndexByteString", "internal/bytealg.IndexString"], named := ["loop.example/g01265/impl.digitBars", "internal/bytealg.MaxLen"], apart := false, laid := [("loop.example/g01265/impl.digitBars", laid_loop_example_g01265_impl_digitBars)], narrowed := true }
def FnExactMostChangesUptoSaid : Prop := fnExactMostChangesUptoRow.holds Tryd.pinned (OpenSpec.upto fnExactMostChangesSpec)

/-- 'laws.FnExactFirstOver', WHERE WHAT IT READS IS OF BULK AT MOST 1048576: true; the input reads as it did. -/
def fnExactFirstOverUptoRow : OpenClaim := { program := "ytahjedckfkkcnaadoor", sum := "02c6e21dca0b2416c1dfe41e8aafd080ed0afdd8e6892e70d416f191eabdd304", func := "loop.example/g01265/laws.FnExactFirstOver", spec := "fnExactFirstOver", inPlace := ["internal/bytealg.IndexByteString", "internal/bytealg.IndexString"], unfollowed := true, recurses := true, named := ["loop.example/g01265/impl.digitBars", "internal/bytealg.MaxLen"], apart := false, laid := [("loop.example/g01265/impl.digitBars", laid_loop_example_g01265_impl_digitBars)], narrowed := true }
def FnExactFirstOverUptoSaid : Prop := fnExactFirstOverUptoRow.holds Tryd.pinned (OpenSpec.upto fnExactFirstOverSpec)

/-- 'laws.FnCounters', WHERE WHAT IT READS IS OF BULK AT MOST 1048576: true; the input reads as it did. -/
def fnCountersUptoRow : OpenClaim := { program := "ytahjedckfkkcnaadoor", sum := "02c6e21dca0b2416c1dfe41e8aafd080ed0afdd8e6892e70d416f191eabdd304", func := "loop.example/g01265/laws.FnCounters", spec := "fnCounters", inPlace := ["internal/bytealg.IndexByteString", "internal/bytealg.IndexString"], unfollowed := true, recurses := true, named := ["loop.example/g01265/impl.digitBars", "internal/bytealg.MaxLen"], apart := false, laid := [("loop.example/g01265/impl.digitBars", laid_loop_example_g01265_impl_digitBars)], narrowed := true }
def FnCountersUptoSaid : Prop := fnCountersUptoRow.holds Tryd.pinned (OpenSpec.upto fnCountersSpec)

end Rows
end Go.Proofs.YtahjedckfkkcnaaDoor
