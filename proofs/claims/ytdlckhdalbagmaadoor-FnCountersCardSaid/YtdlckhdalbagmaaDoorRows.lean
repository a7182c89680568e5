/-
  NARROWER THAN 'FOR EVERY INPUT', by the rows' own cells (each row's printed sentence says how): FnCounters: laid · FnClocks: laid · FnClockLights: laid · FnExactStepChanges: laid · FnExactRunChanges: laid · FnExactClockRow: laid · FnExactTimeOfRow: laid · FnExactMirrorTime: laid · FnExactTurnTime: laid · FnExactSameInMirror: laid · FnExactSameTurned: laid · FnExactMirrorPairs: laid.
  DERIVED. THE GIVEN ROWS OF THIS SEAT. 12 by the template 'for every input the law returns true; each argument reads behind the call as it read before'; 0 by the template 'total and deterministic' (their statements: YtdlckhdalbagmaaDoorTotals.lean).
  GIVEN WITH THE SEED: the statements are not yours to turn. If you find one false, say at which input.
  Laid BY PROGRAM, IN A SANDBOX (cutbox-rows.mjs): the forced cells as the released guide's own fill.sh prints them over the translation c6a73b833c8966fd… (all of the seat's roots in one cut). By AI agents, Wed Nov 11 2026. No macro, syntax, notation, axiom, sorry.
-/
import Derived.Test.YtdlckhdalbagmaaDoorChecked
import GoSem.Claim
import GoSem.ClaimJoined
import GoSem.ClaimMapViews
import Derived.JoinedTies
import Derived.KernelRfl
namespace Go.Proofs.YtdlckhdalbagmaaDoor
/- THE CELL 'sum', in the pinned program and in every row, IS THE sha256 OF THE DUMP (.gsa) THAT YtdlckhdalbagmaaDoorProg.lean LOADS. Nothing in Lean hashes anything: it is a label: what it is worth is what the hold of that sum in a sandbox is worth. -/
noncomputable def Tryd.pinned : Pinned := { name := "ytdlckhdalbagmaadoor", sum := "c6a73b833c8966fd02d5dd919a73ada1eee318aef41a255ef322c8669478ebf7", checked := Tryd.checked }
namespace Rows
def none {H : Type} : Left H := { results := [], args := [] }

/- WHAT THE LISTED PACKAGE-LEVEL VARIABLES READ AS WHEN THE CALL BEGINS. Each datum BY PROGRAM (the guide's laid-datum.mjs) off the statement by which the dump's own 'gosem.cut.vars' lays the variable. In a bare row this is a premise. The card (YtdlckhdalbagmaaDoorCards.lean) ties it to the program's text. -/
def laid_loop_example_g01265_impl_digitBars {H : Type} : DataW H := .agg [.lit (.string [97, 98, 99, 100, 101, 102]), .lit (.string [98, 99]), .lit (.string [97, 98, 100, 101, 103]), .lit (.string [97, 98, 99, 100, 103]), .lit (.string [98, 99, 102, 103]), .lit (.string [97, 99, 100, 102, 103]), .lit (.string [97, 99, 100, 101, 102, 103]), .lit (.string [97, 98, 99]), .lit (.string [97, 98, 99, 100, 101, 102, 103]), .lit (.string [97, 98, 99, 100, 102, 103])]

/-- 'laws.FnCounters': WHATEVER THE INPUT: true; the input reads as it did. -/
def fnCountersSpec : ChangeSpec := { name := "fnCounters", vars := ["loop.example/g01265/impl.digitBars"], fn := fun _ => fun
  | [d, g1] => { results := [.lit (.bool true)], args := [d], vars := [g1] }
  | _ => none }
def fnCountersRow : OpenClaim := { program := "ytdlckhdalbagmaadoor", sum := "c6a73b833c8966fd02d5dd919a73ada1eee318aef41a255ef322c8669478ebf7", func := "loop.example/g01265/laws.FnCounters", spec := "fnCounters", inPlace := ["internal/bytealg.IndexByteString", "internal/bytealg.IndexString"], unfollowed := true, recurses := true, named := ["loop.example/g01265/impl.digitBars", "internal/bytealg.MaxLen"], apart := false, laid := [("loop.example/g01265/impl.digitBars", laid_loop_example_g01265_impl_digitBars)] }
def FnCountersSaid : Prop := fnCountersRow.holds Tryd.pinned (OpenSpec.ofChange fnCountersSpec)

/-- ITS FALSE NEIGHBOUR: 'it returns false'. Refute it at one input. -/
def fnCountersWrong : ChangeSpec := { name := "fnCounters", vars := ["loop.example/g01265/impl.digitBars"], fn := fun _ => fun
  | [d, g1] => { results := [.lit (.bool false)], args := [d], vars := [g1] }
  | _ => none }
def FnCountersWrongFalsely : Prop := fnCountersRow.holds Tryd.pinned (OpenSpec.ofChange fnCountersWrong)

/-- 'laws.FnClocks': WHATEVER THE INPUT: true; the input reads as it did. -/
def fnClocksSpec : ChangeSpec := { name := "fnClocks", vars := ["loop.example/g01265/impl.digitBars"], fn := fun _ => fun
  | [d, g1] => { results := [.lit (.bool true)], args := [d], vars := [g1] }
  | _ => none }
def fnClocksRow : OpenClaim := { program := "ytdlckhdalbagmaadoor", sum := "c6a73b833c8966fd02d5dd919a73ada1eee318aef41a255ef322c8669478ebf7", func := "loop.example/g01265/laws.FnClocks", spec := "fnClocks", inPlace := ["internal/bytealg.IndexByteString", "internal/bytealg.IndexString"], unfollowed := true, recurses := true, named := ["loop.example/g01265/impl.digitBars", "internal/bytealg.MaxLen"], apart := false, laid := [("loop.example/g01265/impl.digitBars", laid_loop_example_g01265_impl_digitBars)] }
def FnClocksSaid : Prop := fnClocksRow.holds Tryd.pinned (OpenSpec.ofChange fnClocksSpec)

/-- ITS FALSE NEIGHBOUR: 'it returns false'. Refute it at one input. -/
def fnClocksWrong : ChangeSpec := { name := "fnClocks", vars := ["loop.example/g01265/impl.digitBars"], fn := fun _ => fun
  | [d, g1] => { results := [.lit (.bool false)], args := [d], vars := [g1] }
  | _ => none }
def FnClocksWrongFalsely : Prop := fnClocksRow.holds Tryd.pinned (OpenSpec.ofChange fnClocksWrong)

/-- 'laws.FnClockLights': WHATEVER THE INPUT: true; the input reads as it did. -/
def fnClockLightsSpec : ChangeSpec := { name := "fnClockLights", vars := ["loop.example/g01265/impl.digitBars"], fn := fun _ => fun
  | [d, g1] => { results := [.lit (.bool true)], args := [d], vars := [g1] }
  | _ => none }
def fnClockLightsRow : OpenClaim := { program := "ytdlckhdalbagmaadoor", sum := "c6a73b833c8966fd02d5dd919a73ada1eee318aef41a255ef322c8669478ebf7", func := "loop.example/g01265/laws.FnClockLights", spec := "fnClockLights", inPlace := ["internal/bytealg.IndexByteString", "internal/bytealg.IndexString"], unfollowed := true, recurses := true, named := ["loop.example/g01265/impl.digitBars", "internal/bytealg.MaxLen"], apart := false, laid := [("loop.example/g01265/impl.digitBars", laid_loop_example_g01265_impl_digitBars)] }
def FnClockLightsSaid : Prop := fnClockLightsRow.holds Tryd.pinned (OpenSpec.ofChange fnClockLightsSpec)

/-- ITS FALSE NEIGHBOUR: 'it returns false'. Refute it at one input. -/
def fnClockLightsWrong : ChangeSpec := { name := "fnClockLights", vars := ["loop.example/g01265/impl.digitBars"], fn := fun _ => fun
  | [d, g1] => { results := [.lit (.bool false)], args := [d], vars := [g1] }
  | _ => none }
def FnClockLightsWrongFalsely : Prop := fnClockLightsRow.holds Tryd.pinned (OpenSpec.ofChange fnClockLightsWrong)

/-- 'laws.FnExactStepChanges': WHATEVER THE INPUT: true; the input reads as it did. -/
def fnExactStepChangesSpec : ChangeSpec := { name := "fnExactStepChanges", vars := ["loop.example/g01265/impl.digitBars"], fn := fun _ => fun
  | [d1, d2, g1] => { results := [.lit (.bool true)], args := [d1, d2], vars := [g1] }
  | _ => none }
def fnExactStepChangesRow : OpenClaim := { program := "ytdlckhdalbagmaadoor", sum := "c6a73b833c8966fd02d5dd919a73ada1eee318aef41a255ef322c8669478ebf7", func := "loop.example/g01265/laws.FnExactStepChanges", spec := "fnExactStepChanges", inPlace := ["internal/bytealg.IndexByteString", "internal/bytealg.IndexString"], named := ["loop.example/g01265/impl.digitBars", "internal/bytealg.MaxLen"], apart := false, laid := [("loop.example/g01265/impl.digitBars", laid_loop_example_g01265_impl_digitBars)] }
def FnExactStepChangesSaid : Prop := fnExactStepChangesRow.holds Tryd.pinned (OpenSpec.ofChange fnExactStepChangesSpec)

/-- ITS FALSE NEIGHBOUR: 'it returns false'. Refute it at one input. -/
def fnExactStepChangesWrong : ChangeSpec := { name := "fnExactStepChanges", vars := ["loop.example/g01265/impl.digitBars"], fn := fun _ => fun
  | [d1, d2, g1] => { results := [.lit (.bool false)], args := [d1, d2], vars := [g1] }
  | _ => none }
def FnExactStepChangesWrongFalsely : Prop := fnExactStepChangesRow.holds Tryd.pinned (OpenSpec.ofChange fnExactStepChangesWrong)

/-- 'laws.FnExactRunChanges': WHATEVER THE INPUT: true; the input reads as it did. -/
def fnExactRunChangesSpec : ChangeSpec := { name := "fnExactRunChanges", vars := ["loop.example/g01265/impl.digitBars"], fn := fun _ => fun
  | [d1, d2, d3, g1] => { results := [.lit (.bool true)], args := [d1, d2, d3], vars := [g1] }
  | _ => none }
def fnExactRunChangesRow : OpenClaim := { program := "ytdlckhdalbagmaadoor", sum := "c6a73b833c8966fd02d5dd919a73ada1eee318aef41a255ef322c8669478ebf7", func := "loop.example/g01265/laws.FnExactRunChanges", spec := "fnExactRunChanges", inPlace := ["internal/bytealg.IndexByteString", "internal/bytealg.IndexString"], unfollowed := true, recurses := true, named := ["loop.example/g01265/impl.digitBars", "internal/bytealg.MaxLen"], apart := false, laid := [("loop.example/g01265/impl.digitBars", laid_loop_example_g01265_impl_digitBars)] }
def FnExactRunChangesSaid : Prop := fnExactRunChangesRow.holds Tryd.pinned (OpenSpec.ofChange fnExactRunChangesSpec)

/-- ITS FALSE NEIGHBOUR: 'it returns false'. Refute it at one input. -/
def fnExactRunChangesWrong : ChangeSpec := { name := "fnExactRunChanges", vars := ["loop.example/g01265/impl.digitBars"], fn := fun _ => fun
  | [d1, d2, d3, g1] => { results := [.lit (.bool false)], args := [d1, d2, d3], vars := [g1] }
  | _ => none }
def FnExactRunChangesWrongFalsely : Prop := fnExactRunChangesRow.holds Tryd.pinned (OpenSpec.ofChange fnExactRunChangesWrong)

/-- 'laws.FnExactClockRow': WHATEVER THE INPUT: true; the input reads as it did. -/
def fnExactClockRowSpec : ChangeSpec := { name := "fnExactClockRow", vars := ["loop.example/g01265/impl.digitBars"], fn := fun _ => fun
  | [d, g1] => { results := [.lit (.bool true)], args := [d], vars := [g1] }
  | _ => none }
def fnExactClockRowRow : OpenClaim := { program := "ytdlckhdalbagmaadoor", sum := "c6a73b833c8966fd02d5dd919a73ada1eee318aef41a255ef322c8669478ebf7", func := "loop.example/g01265/laws.FnExactClockRow", spec := "fnExactClockRow", inPlace := ["internal/bytealg.IndexByteString", "internal/bytealg.IndexString"], named := ["loop.example/g01265/impl.digitBars", "internal/bytealg.MaxLen"], apart := false, laid := [("loop.example/g01265/impl.digitBars", laid_loop_example_g01265_impl_digitBars)] }
def FnExactClockRowSaid : Prop := fnExactClockRowRow.holds Tryd.pinned (OpenSpec.ofChange fnExactClockRowSpec)

/-- ITS FALSE NEIGHBOUR: 'it returns false'. Refute it at one input. -/
def fnExactClockRowWrong : ChangeSpec := { name := "fnExactClockRow", vars := ["loop.example/g01265/impl.digitBars"], fn := fun _ => fun
  | [d, g1] => { results := [.lit (.bool false)], args := [d], vars := [g1] }
  | _ => none }
def FnExactClockRowWrongFalsely : Prop := fnExactClockRowRow.holds Tryd.pinned (OpenSpec.ofChange fnExactClockRowWrong)

/-- 'laws.FnExactTimeOfRow': WHATEVER THE INPUT: true; the input reads as it did. -/
def fnExactTimeOfRowSpec : ChangeSpec := { name := "fnExactTimeOfRow", vars := ["loop.example/g01265/impl.digitBars"], fn := fun _ => fun
  | [d, g1] => { results := [.lit (.bool true)], args := [d], vars := [g1] }
  | _ => none }
def fnExactTimeOfRowRow : OpenClaim := { program := "ytdlckhdalbagmaadoor", sum := "c6a73b833c8966fd02d5dd919a73ada1eee318aef41a255ef322c8669478ebf7", func := "loop.example/g01265/laws.FnExactTimeOfRow", spec := "fnExactTimeOfRow", inPlace := ["internal/bytealg.IndexByteString", "internal/bytealg.IndexString"], named := ["loop.example/g01265/impl.digitBars", "internal/bytealg.MaxLen"], apart := false, laid := [("loop.example/g01265/impl.digitBars", laid_loop_example_g01265_impl_digitBars)] }
def FnExactTimeOfRowSaid : Prop := fnExactTimeOfRowRow.holds Tryd.pinned (OpenSpec.ofChange fnExactTimeOfRowSpec)

/-- ITS FALSE NEIGHBOUR: 'it returns false'. Refute it at one input. -/
def fnExactTimeOfRowWrong : ChangeSpec := { name := "fnExactTimeOfRow", vars := ["loop.example/g01265/impl.digitBars"], fn := fun _ => fun
  | [d, g1] => { results := [.lit (.bool false)], args := [d], vars := [g1] }
  | _ => none }
def FnExactTimeOfRowWrongFalsely : Prop := fnExactTimeOfRowRow.holds Tryd.pinned (OpenSpec.ofChange fnExactTimeOfRowWrong)

/-- 'laws.FnExactMirrorTime': WHATEVER THE INPUT: true; the input reads as it did. -/
def fnExactMirrorTimeSpec : ChangeSpec := { name := "fnExactMirrorTime", vars := ["loop.example/g01265/impl.digitBars"], fn := fun _ => fun
  | [d, g1] => { results := [.lit (.bool true)], args := [d], vars := [g1] }
  | _ => none }
def fnExactMirrorTimeRow : OpenClaim := { program := "ytdlckhdalbagmaadoor", sum := "c6a73b833c8966fd02d5dd919a73ada1eee318aef41a255ef322c8669478ebf7", func := "loop.example/g01265/laws.FnExactMirrorTime", spec := "fnExactMirrorTime", inPlace := ["internal/bytealg.IndexByteString", "internal/bytealg.IndexString"], unfollowed := true, recurses := true, named := ["loop.example/g01265/impl.digitBars", "internal/bytealg.MaxLen"], apart := false, laid := [("loop.example/g01265/impl.digitBars", laid_loop_example_g01265_impl_digitBars)] }
def FnExactMirrorTimeSaid : Prop := fnExactMirrorTimeRow.holds Tryd.pinned (OpenSpec.ofChange fnExactMirrorTimeSpec)

/-- ITS FALSE NEIGHBOUR: 'it returns false'. Refute it at one input. -/
def fnExactMirrorTimeWrong : ChangeSpec := { name := "fnExactMirrorTime", vars := ["loop.example/g01265/impl.digitBars"], fn := fun _ => fun
  | [d, g1] => { results := [.lit (.bool false)], args := [d], vars := [g1] }
  | _ => none }
def FnExactMirrorTimeWrongFalsely : Prop := fnExactMirrorTimeRow.holds Tryd.pinned (OpenSpec.ofChange fnExactMirrorTimeWrong)

/-- 'laws.FnExactTurnTime': WHATEVER THE INPUT: true; the input reads as it did. -/
def fnExactTurnTimeSpec : ChangeSpec := { name := "fnExactTurnTime", vars := ["loop.example/g01265/impl.digitBars"], fn := fun _ => fun
  | [d, g1] => { results := [.lit (.bool true)], args := [d], vars := [g1] }
  | _ => none }
def fnExactTurnTimeRow : OpenClaim := { program := "ytdlckhdalbagmaadoor", sum := "c6a73b833c8966fd02d5dd919a73ada1eee318aef41a255ef322c8669478ebf7", func := "loop.example/g01265/laws.FnExactTurnTime", spec := "fnExactTurnTime", inPlace := ["internal/bytealg.IndexByteString", "internal/bytealg.IndexString"], unfollowed := true, recurses := true, named := ["loop.example/g01265/impl.digitBars", "internal/bytealg.MaxLen"], apart := false, laid := [("loop.example/g01265/impl.digitBars", laid_loop_example_g01265_impl_digitBars)] }
def FnExactTurnTimeSaid : Prop := fnExactTurnTimeRow.holds Tryd.pinned (OpenSpec.ofChange fnExactTurnTimeSpec)

/-- ITS FALSE NEIGHBOUR: 'it returns false'. Refute it at one input. -/
def fnExactTurnTimeWrong : ChangeSpec := { name := "fnExactTurnTime", vars := ["loop.example/g01265/impl.digitBars"], fn := fun _ => fun
  | [d, g1] => { results := [.lit (.bool false)], args := [d], vars := [g1] }
  | _ => none }
def FnExactTurnTimeWrongFalsely : Prop := fnExactTurnTimeRow.holds Tryd.pinned (OpenSpec.ofChange fnExactTurnTimeWrong)

/-- 'laws.FnExactSameInMirror': WHATEVER THE INPUT: true; the input reads as it did. -/
def fnExactSameInMirrorSpec : ChangeSpec := { name := "fnExactSameInMirror", vars := ["loop.example/g01265/impl.digitBars"], fn := fun _ => fun
  | [g1] => { results := [.lit (.bool true)], args := [], vars := [g1] }
  | _ => none }
def fnExactSameInMirrorRow : OpenClaim := { program := "ytdlckhdalbagmaadoor", sum := "c6a73b833c8966fd02d5dd919a73ada1eee318aef41a255ef322c8669478ebf7", func := "loop.example/g01265/laws.FnExactSameInMirror", spec := "fnExactSameInMirror", inPlace := ["internal/bytealg.IndexByteString", "internal/bytealg.IndexString"], unfollowed := true, recurses := true, named := ["loop.example/g01265/impl.digitBars", "internal/bytealg.MaxLen"], apart := false, laid := [("loop.example/g01265/impl.digitBars", laid_loop_example_g01265_impl_digitBars)] }
def FnExactSameInMirrorSaid : Prop := fnExactSameInMirrorRow.holds Tryd.pinned (OpenSpec.ofChange fnExactSameInMirrorSpec)

/-- ITS FALSE NEIGHBOUR: 'it returns false'. Refute it at one input. -/
def fnExactSameInMirrorWrong : ChangeSpec := { name := "fnExactSameInMirror", vars := ["loop.example/g01265/impl.digitBars"], fn := fun _ => fun
  | [g1] => { results := [.lit (.bool false)], args := [], vars := [g1] }
  | _ => none }
def FnExactSameInMirrorWrongFalsely : Prop := fnExactSameInMirrorRow.holds Tryd.pinned (OpenSpec.ofChange fnExactSameInMirrorWrong)

/-- 'laws.FnExactSameTurned': WHATEVER THE INPUT: true; the input reads as it did. -/
def fnExactSameTurnedSpec : ChangeSpec := { name := "fnExactSameTurned", vars := ["loop.example/g01265/impl.digitBars"], fn := fun _ => fun
  | [g1] => { results := [.lit (.bool true)], args := [], vars := [g1] }
  | _ => none }
def fnExactSameTurnedRow : OpenClaim := { program := "ytdlckhdalbagmaadoor", sum := "c6a73b833c8966fd02d5dd919a73ada1eee318aef41a255ef322c8669478ebf7", func := "loop.example/g01265/laws.FnExactSameTurned", spec := "fnExactSameTurned", inPlace := ["internal/bytealg.IndexByteString", "internal/bytealg.IndexString"], unfollowed := true, recurses := true, named := ["loop.example/g01265/impl.digitBars", "internal/bytealg.MaxLen"], apart := false, laid := [("loop.example/g01265/impl.digitBars", laid_loop_example_g01265_impl_digitBars)] }
def FnExactSameTurnedSaid : Prop := fnExactSameTurnedRow.holds Tryd.pinned (OpenSpec.ofChange fnExactSameTurnedSpec)

/-- ITS FALSE NEIGHBOUR: 'it returns false'. Refute it at one input. -/
def fnExactSameTurnedWrong : ChangeSpec := { name := "fnExactSameTurned", vars := ["loop.example/g01265/impl.digitBars"], fn := fun _ => fun
  | [g1] => { results := [.lit (.bool false)], args := [], vars := [g1] }
  | _ => none }
def FnExactSameTurnedWrongFalsely : Prop := fnExactSameTurnedRow.holds Tryd.pinned (OpenSpec.ofChange fnExactSameTurnedWrong)

/-- 'laws.FnExactMirrorPairs': WHATEVER THE INPUT: true; the input reads as it did. -/
def fnExactMirrorPairsSpec : ChangeSpec := { name := "fnExactMirrorPairs", vars := ["loop.example/g01265/impl.digitBars"], fn := fun _ => fun
  | [g1] => { results := [.lit (.bool true)], args := [], vars := [g1] }
  | _ => none }
def fnExactMirrorPairsRow : OpenClaim := { program := "ytdlckhdalbagmaadoor", sum := "c6a73b833c8966fd02d5dd919a73ada1eee318aef41a255ef322c8669478ebf7", func := "loop.example/g01265/laws.FnExactMirrorPairs", spec := "fnExactMirrorPairs", inPlace := ["internal/bytealg.IndexByteString", "internal/bytealg.IndexString"], unfollowed := true, recurses := true, named := ["loop.example/g01265/impl.digitBars", "internal/bytealg.MaxLen"], apart := false, laid := [("loop.example/g01265/impl.digitBars", laid_loop_example_g01265_impl_digitBars)] }
def FnExactMirrorPairsSaid : Prop := fnExactMirrorPairsRow.holds Tryd.pinned (OpenSpec.ofChange fnExactMirrorPairsSpec)

/-- ITS FALSE NEIGHBOUR: 'it returns false'. Refute it at one input. -/
def fnExactMirrorPairsWrong : ChangeSpec := { name := "fnExactMirrorPairs", vars := ["loop.example/g01265/impl.digitBars"], fn := fun _ => fun
  | [g1] => { results := [.lit (.bool false)], args := [], vars := [g1] }
  | _ => none }
def FnExactMirrorPairsWrongFalsely : Prop := fnExactMirrorPairsRow.holds Tryd.pinned (OpenSpec.ofChange fnExactMirrorPairsWrong)

/- THE SECOND FORM. 'bulk': how many values and letters a reading holds, each counted each time it is reached (what is shared counts as often as it is met; a slice's spare places count too). A statement '..UptoSaid' is the law's where the arguments, and the package variables that the reading takes, are together of bulk at most 1048576: NARROWER than '..Said'. Prove '..Said' where nothing that the law and all that it calls make is longer than what came in: it says more and counts as full. Else prove '..UptoSaid'. A law counts once. -/
mutual
def uptoBulk {H : Type} : DataW H → Nat
  | .lit (.string bytes) => bytes.length + 1
  | .lit _ => 1
  | .nil => 1
  | .ptr d => uptoBulk d + 1
  | .slice elems spare => uptoBulkAll elems + uptoBulkAll spare + 1
  | .agg parts => uptoBulkAll parts + 1
  | .iface _ d => uptoBulk d + 1
  | .map entries => uptoBulkEntries entries + 1
  | .held _ => 1
def uptoBulkAll {H : Type} : List (DataW H) → Nat
  | [] => 0
  | d :: r => uptoBulk d + uptoBulkAll r
def uptoBulkEntries {H : Type} : List (Lit × DataW H) → Nat
  | [] => 0
  | x :: r => uptoBulkEntry x + uptoBulkEntries r
def uptoBulkEntry {H : Type} : Lit × DataW H → Nat
  | (.string bytes, d) => bytes.length + uptoBulk d + 1
  | (_, d) => uptoBulk d + 1
 end
def uptoSmall : (H : Type) → List (DataW H) → Bool := fun _ ds => decide (uptoBulkAll ds ≤ 1048576)
def OpenSpec.upto (s : _root_.Go.ChangeSpec) : _root_.Go.OpenSpec := { _root_.Go.OpenSpec.ofChange s with cond := some uptoSmall }

/-- 'laws.FnCounters', WHERE WHAT IT READS IS OF BULK AT MOST 1048576: true; the input reads as it did. -/
def fnCountersUptoRow : OpenClaim := { program := "ytdlckhdalbagmaadoor", sum := "c6a73b833c8966fd02d5dd919a73ada1eee318aef41a255ef322c8669478ebf7", func := "loop.example/g01265/laws.FnCounters", spec := "fnCounters", inPlace := ["internal/bytealg.IndexByteString", "internal/bytealg.IndexString"], unfollowed := true, recurses := true, named := ["loop.example/g01265/impl.digitBars", "internal/bytealg.MaxLen"], apart := false, laid := [("loop.example/g01265/impl.digitBars", laid_loop_example_g01265_impl_digitBars)], narrowed := true }
def FnCountersUptoSaid : Prop := fnCountersUptoRow.holds Tryd.pinned (OpenSpec.upto fnCountersSpec)

/-- 'laws.FnClocks', WHERE WHAT IT READS IS OF BULK AT MOST 1048576: true; the input reads as it did. -/
def fnClocksUptoRow : OpenClaim := { program := "ytdlckhdalbagmaadoor", sum := "c6a73b833c8966fd02d5dd919a73ada1eee318aef41a255ef322c8669478ebf7", func := "loop.example/g01265/laws.FnClocks", spec := "fnClocks", inPlace := ["internal/bytealg.IndexByteString", "internal/bytealg.IndexString"], unfollowed := true, recurses := true, named := ["loop.example/g01265/impl.digitBars", "internal/bytealg.MaxLen"], apart := false, laid := [("loop.example/g01265/impl.digitBars", laid_loop_example_g01265_impl_digitBars)], narrowed := true }
def FnClocksUptoSaid : Prop := fnClocksUptoRow.holds Tryd.pinned (OpenSpec.upto fnClocksSpec)

/-- 'laws.FnClockLights', WHERE WHAT IT READS IS OF BULK AT MOST 1048576: true; the input reads as it did. -/
def fnClockLightsUptoRow : OpenClaim := { program := "ytdlckhdalbagmaadoor", sum := "c6a73b833c8966fd02d5dd919a73ada1eee318aef41a255ef322c8669478ebf7", func := "loop.example/g01265/laws.FnClockLights", spec := "fnClockLights", inPlace := ["internal/bytealg.IndexByteString", "internal/bytealg.IndexString"], unfollowed := true, recurses := true, named := ["loop.example/g01265/impl.digitBars", "internal/bytealg.MaxLen"], apart := false, laid := [("loop.example/g01265/impl.digitBars", laid_loop_example_g01265_impl_digitBars)], narrowed := true }
def FnClockLightsUptoSaid : Prop := fnClockLightsUptoRow.holds Tryd.pinned (OpenSpec.upto fnClockLightsSpec)

/-- 'laws.FnExactStepChanges', WHERE WHAT IT READS IS OF BULK AT MOST 1048576: true; the input reads as it did. -/
def fnExactStepChangesUptoRow : OpenClaim := { program := "ytdlckhdalbagmaadoor", sum := "c6a73b833c8966fd02d5dd919a73ada1eee318aef41a255ef322c8669478ebf7", func := "loop.example/g01265/laws.FnExactStepChanges", spec := "fnExactStepChanges", inPlace := ["internal/bytealg.IndexByteString", "internal/bytealg.IndexString"], named := ["loop.example/g01265/impl.digitBars", "internal/bytealg.MaxLen"], apart := false, laid := [("loop.example/g01265/impl.digitBars", laid_loop_example_g01265_impl_digitBars)], narrowed := true }
def FnExactStepChangesUptoSaid : Prop := fnExactStepChangesUptoRow.holds Tryd.pinned (OpenSpec.upto fnExactStepChangesSpec)

/-- 'laws.FnExactRunChanges', WHERE WHAT IT READS IS OF BULK AT MOST 1048576: true; the input reads as it did. -/
def fnExactRunChangesUptoRow : OpenClaim := { program := "ytdlckhdalbagmaadoor", sum := "c6a73b833c8966fd02d5dd919a73ada1eee318aef41a255ef322c8669478ebf7", func := "loop.example/g01265/laws.FnExactRunChanges", spec := "fnExactRunChanges", inPlace := ["internal/bytealg.IndexByteString", "internal/bytealg.IndexString"], unfollowed := true, recurses := true, named := ["loop.example/g01265/impl.digitBars", "internal/bytealg.MaxLen"], apart := false, laid := [("loop.example/g01265/impl.digitBars", laid_loop_example_g01265_impl_digitBars)], narrowed := true }
def FnExactRunChangesUptoSaid : Prop := fnExactRunChangesUptoRow.holds Tryd.pinned (OpenSpec.upto fnExactRunChangesSpec)

/-- 'laws.FnExactClockRow', WHERE WHAT IT READS IS OF BULK AT MOST 1048576: true; the input reads as it did. -/
def fnExactClockRowUptoRow : OpenClaim := { program := "ytdlckhdalbagmaadoor", sum := "c6a73b833c8966fd02d5dd919a73ada1eee318aef41a255ef322c8669478ebf7", func := "loop.example/g01265/laws.FnExactClockRow", spec := "fnExactClockRow", inPlace := ["internal/bytealg.IndexByteString", "internal/bytealg.IndexString"], named := ["loop.example/g01265/impl.digitBars", "internal/bytealg.MaxLen"], apart := false, laid := [("loop.example/g01265/impl.digitBars", laid_loop_example_g01265_impl_digitBars)], narrowed := true }
def FnExactClockRowUptoSaid : Prop := fnExactClockRowUptoRow.holds Tryd.pinned (OpenSpec.upto fnExactClockRowSpec)

/-- 'laws.FnExactTimeOfRow', WHERE WHAT IT READS IS OF BULK AT MOST 1048576: true; the input reads as it did. -/
def fnExactTimeOfRowUptoRow : OpenClaim := { program := "ytdlckhdalbagmaadoor", sum := "c6a73b833c8966fd02d5dd919a73ada1eee318aef41a255ef322c8669478ebf7", func := "loop.example/g01265/laws.FnExactTimeOfRow", spec := "fnExactTimeOfRow", inPlace := ["internal/bytealg.IndexByteString", "internal/bytealg.IndexString"], named := ["loop.example/g01265/impl.digitBars", "internal/bytealg.MaxLen"], apart := false, laid := [("loop.example/g01265/impl.digitBars", laid_loop_example_g01265_impl_digitBars)], narrowed := true }
def FnExactTimeOfRowUptoSaid : Prop := fnExactTimeOfRowUptoRow.holds Tryd.pinned (OpenSpec.upto fnExactTimeOfRowSpec)

/-- 'laws.FnExactMirrorTime', WHERE WHAT IT READS IS OF BULK AT MOST 1048576: true; the input reads as it did. -/
def fnExactMirrorTimeUptoRow : OpenClaim := { program := "ytdlckhdalbagmaadoor", sum := "c6a73b833c8966fd02d5dd919a73ada1eee318aef41a255ef322c8669478ebf7", func := "loop.example/g01265/laws.FnExactMirrorTime", spec := "fnExactMirrorTime", inPlace := ["internal/bytealg.IndexByteString", "internal/bytealg.IndexString"], unfollowed := true, recurses := true, named := ["loop.example/g01265/impl.digitBars", "internal/bytealg.MaxLen"], apart := false, laid := [("loop.example/g01265/impl.digitBars", laid_loop_example_g01265_impl_digitBars)], narrowed := true }
def FnExactMirrorTimeUptoSaid : Prop := fnExactMirrorTimeUptoRow.holds Tryd.pinned (OpenSpec.upto fnExactMirrorTimeSpec)

/-- 'laws.FnExactTurnTime', WHERE WHAT IT READS IS OF BULK AT MOST 1048576: true; the input reads as it did. -/
def fnExactTurnTimeUptoRow : OpenClaim := { program := "ytdlckhdalbagmaadoor", sum := "c6a73b833c8966fd02d5dd919a73ada1eee318aef41a255ef322c8669478ebf7", func := "loop.example/g01265/laws.FnExactTurnTime", spec := "fnExactTurnTime", inPlace := ["internal/bytealg.IndexByteString", "internal/bytealg.IndexString"], unfollowed := true, recurses := true, named := ["loop.example/g01265/impl.digitBars", "internal/bytealg.MaxLen"], apart := false, laid := [("loop.example/g01265/impl.digitBars", laid_loop_example_g01265_impl_digitBars)], narrowed := true }
def FnExactTurnTimeUptoSaid : Prop := fnExactTurnTimeUptoRow.holds Tryd.pinned (OpenSpec.upto fnExactTurnTimeSpec)

/-- 'laws.FnExactSameInMirror', WHERE WHAT IT READS IS OF BULK AT MOST 1048576: true; the input reads as it did. -/
def fnExactSameInMirrorUptoRow : OpenClaim := { program := "ytdlckhdalbagmaadoor", sum := "c6a73b833c8966fd02d5dd919a73ada1eee318aef41a255ef322c8669478ebf7", func := "loop.example/g01265/laws.FnExactSameInMirror", spec := "fnExactSameInMirror", inPlace := ["internal/bytealg.IndexByteString", "internal/bytealg.IndexString"], unfollowed := true, recurses := true, named := ["loop.example/g01265/impl.digitBars", "internal/bytealg.MaxLen"], apart := false, laid := [("loop.example/g01265/impl.digitBars", laid_loop_example_g01265_impl_digitBars)], narrowed := true }
def FnExactSameInMirrorUptoSaid : Prop := fnExactSameInMirrorUptoRow.holds Tryd.pinned (OpenSpec.upto fnExactSameInMirrorSpec)

/-- 'laws.FnExactSameTurned', WHERE WHAT IT READS IS OF BULK AT MOST 1048576: true; the input reads as it did. -/
def fnExactSameTurnedUptoRow : OpenClaim := { program := "ytdlckhdalbagmaadoor", sum := "c6a73b833c8966fd02d5dd919a73ada1eee318aef41a255ef322c8669478ebf7", func := "loop.example/g01265/laws.FnExactSameTurned", spec := "fnExactSameTurned", inPlace := ["internal/bytealg.IndexByteString", "internal/bytealg.IndexString"], unfollowed := true, recurses := true, named := ["loop.example/g01265/impl.digitBars", "internal/bytealg.MaxLen"], apart := false, laid := [("loop.example/g01265/impl.digitBars", laid_loop_example_g01265_impl_digitBars)], narrowed := true }
def FnExactSameTurnedUptoSaid : Prop := fnExactSameTurnedUptoRow.holds Tryd.pinned (OpenSpec.upto fnExactSameTurnedSpec)

/-- 'laws.FnExactMirrorPairs', WHERE WHAT IT READS IS OF BULK AT MOST 1048576: true; the input reads as it did. -/
def fnExactMirrorPairsUptoRow : OpenClaim := { program := "ytdlckhdalbagmaadoor", sum := "c6a73b833c8966fd02d5dd919a73ada1eee318aef41a255ef322c8669478ebf7", func := "loop.example/g01265/laws.FnExactMirrorPairs", spec := "fnExactMirrorPairs", inPlace := ["internal/bytealg.IndexByteString", "internal/bytealg.IndexString"], unfollowed := true, recurses := true, named := ["loop.example/g01265/impl.digitBars", "internal/bytealg.MaxLen"], apart := false, laid := [("loop.example/g01265/impl.digitBars", laid_loop_example_g01265_impl_digitBars)], narrowed := true }
def FnExactMirrorPairsUptoSaid : Prop := fnExactMirrorPairsUptoRow.holds Tryd.pinned (OpenSpec.upto fnExactMirrorPairsSpec)

end Rows
end Go.Proofs.YtdlckhdalbagmaaDoor
