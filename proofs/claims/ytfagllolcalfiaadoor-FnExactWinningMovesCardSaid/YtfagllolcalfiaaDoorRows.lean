/-
  NARROWER THAN 'FOR EVERY INPUT', by the rows' own cells (each row's printed sentence says how): FnLighting: laid · FnExactIsGoal: laid · FnExactIsOnWay: laid · FnExactLightableBars: laid · FnExactCellNumber: laid · FnExactLightWins: laid · FnExactWinningMoves: laid · FnExactMissWins: laid · FnExactRaceWins: laid · FnExactLongestPlay: laid · FnExactShortestPlay: laid · FnExactCountPlays: laid.
  DERIVED. THE GIVEN ROWS OF THIS SEAT. 12 by the template 'for every input the law returns true; each argument reads behind the call as it read before'; 0 by the template 'total and deterministic' (their statements: YtfagllolcalfiaaDoorTotals.lean).
  GIVEN WITH THE SEED: the statements are not yours to turn. If you find one false, say at which input.
  Laid BY PROGRAM, IN A SANDBOX (cutbox-rows.mjs): the forced cells as the released guide's own fill.sh prints them over the translation adecc89abc44a169… (all of the seat's roots in one cut). By AI agents, Wed Nov 11 2026. No macro, syntax, notation, axiom, sorry.
-/
import Derived.Test.YtfagllolcalfiaaDoorChecked
import GoSem.Claim
import GoSem.ClaimJoined
import GoSem.ClaimMapViews
import Derived.JoinedTies
import Derived.KernelRfl
namespace Go.Proofs.YtfagllolcalfiaaDoor
/- THE CELL 'sum', in the pinned program and in every row, IS THE sha256 OF THE DUMP (.gsa) THAT YtfagllolcalfiaaDoorProg.lean LOADS. Nothing in Lean hashes anything: it is a label: what it is worth is what the hold of that sum in a sandbox is worth. -/
noncomputable def Tryd.pinned : Pinned := { name := "ytfagllolcalfiaadoor", sum := "adecc89abc44a169dc8a2b13158b2f26de4bd6f86e0bdf8d2a6fc1f711290491", checked := Tryd.checked }
namespace Rows
def none {H : Type} : Left H := { results := [], args := [] }

/- WHAT THE LISTED PACKAGE-LEVEL VARIABLES READ AS WHEN THE CALL BEGINS. Each datum BY PROGRAM (the guide's laid-datum.mjs) off the statement by which the dump's own 'gosem.cut.vars' lays the variable. In a bare row this is a premise. The card (YtfagllolcalfiaaDoorCards.lean) ties it to the program's text. -/
def laid_loop_example_g01265_impl_digitBars {H : Type} : DataW H := .agg [.lit (.string [97, 98, 99, 100, 101, 102]), .lit (.string [98, 99]), .lit (.string [97, 98, 100, 101, 103]), .lit (.string [97, 98, 99, 100, 103]), .lit (.string [98, 99, 102, 103]), .lit (.string [97, 99, 100, 102, 103]), .lit (.string [97, 99, 100, 101, 102, 103]), .lit (.string [97, 98, 99]), .lit (.string [97, 98, 99, 100, 101, 102, 103]), .lit (.string [97, 98, 99, 100, 102, 103])]

/-- 'laws.FnLighting': WHATEVER THE INPUT: true; the input reads as it did. -/
def fnLightingSpec : ChangeSpec := { name := "fnLighting", vars := ["loop.example/g01265/impl.digitBars"], fn := fun _ => fun
  | [d, g1] => { results := [.lit (.bool true)], args := [d], vars := [g1] }
  | _ => none }
def fnLightingRow : OpenClaim := { program := "ytfagllolcalfiaadoor", sum := "adecc89abc44a169dc8a2b13158b2f26de4bd6f86e0bdf8d2a6fc1f711290491", func := "loop.example/g01265/laws.FnLighting", spec := "fnLighting", inPlace := ["internal/bytealg.IndexByteString", "internal/bytealg.IndexString", "internal/abi.NoEscape"], unfollowed := true, recurses := true, named := ["loop.example/g01265/impl.digitBars", "internal/bytealg.MaxLen"], apart := false, laid := [("loop.example/g01265/impl.digitBars", laid_loop_example_g01265_impl_digitBars)] }
def FnLightingSaid : Prop := fnLightingRow.holds Tryd.pinned (OpenSpec.ofChange fnLightingSpec)

/-- ITS FALSE NEIGHBOUR: 'it returns false'. Refute it at one input. -/
def fnLightingWrong : ChangeSpec := { name := "fnLighting", vars := ["loop.example/g01265/impl.digitBars"], fn := fun _ => fun
  | [d, g1] => { results := [.lit (.bool false)], args := [d], vars := [g1] }
  | _ => none }
def FnLightingWrongFalsely : Prop := fnLightingRow.holds Tryd.pinned (OpenSpec.ofChange fnLightingWrong)

/-- 'laws.FnExactIsGoal': WHATEVER THE INPUT: true; the input reads as it did. -/
def fnExactIsGoalSpec : ChangeSpec := { name := "fnExactIsGoal", vars := ["loop.example/g01265/impl.digitBars"], fn := fun _ => fun
  | [d, g1] => { results := [.lit (.bool true)], args := [d], vars := [g1] }
  | _ => none }
def fnExactIsGoalRow : OpenClaim := { program := "ytfagllolcalfiaadoor", sum := "adecc89abc44a169dc8a2b13158b2f26de4bd6f86e0bdf8d2a6fc1f711290491", func := "loop.example/g01265/laws.FnExactIsGoal", spec := "fnExactIsGoal", inPlace := ["internal/bytealg.IndexByteString", "internal/bytealg.IndexString"], named := ["loop.example/g01265/impl.digitBars", "internal/bytealg.MaxLen"], apart := false, laid := [("loop.example/g01265/impl.digitBars", laid_loop_example_g01265_impl_digitBars)] }
def FnExactIsGoalSaid : Prop := fnExactIsGoalRow.holds Tryd.pinned (OpenSpec.ofChange fnExactIsGoalSpec)

/-- ITS FALSE NEIGHBOUR: 'it returns false'. Refute it at one input. -/
def fnExactIsGoalWrong : ChangeSpec := { name := "fnExactIsGoal", vars := ["loop.example/g01265/impl.digitBars"], fn := fun _ => fun
  | [d, g1] => { results := [.lit (.bool false)], args := [d], vars := [g1] }
  | _ => none }
def FnExactIsGoalWrongFalsely : Prop := fnExactIsGoalRow.holds Tryd.pinned (OpenSpec.ofChange fnExactIsGoalWrong)

/-- 'laws.FnExactIsOnWay': WHATEVER THE INPUT: true; the input reads as it did. -/
def fnExactIsOnWaySpec : ChangeSpec := { name := "fnExactIsOnWay", vars := ["loop.example/g01265/impl.digitBars"], fn := fun _ => fun
  | [d1, d2, g1] => { results := [.lit (.bool true)], args := [d1, d2], vars := [g1] }
  | _ => none }
def fnExactIsOnWayRow : OpenClaim := { program := "ytfagllolcalfiaadoor", sum := "adecc89abc44a169dc8a2b13158b2f26de4bd6f86e0bdf8d2a6fc1f711290491", func := "loop.example/g01265/laws.FnExactIsOnWay", spec := "fnExactIsOnWay", inPlace := ["internal/bytealg.IndexByteString", "internal/bytealg.IndexString"], named := ["loop.example/g01265/impl.digitBars", "internal/bytealg.MaxLen"], apart := false, laid := [("loop.example/g01265/impl.digitBars", laid_loop_example_g01265_impl_digitBars)] }
def FnExactIsOnWaySaid : Prop := fnExactIsOnWayRow.holds Tryd.pinned (OpenSpec.ofChange fnExactIsOnWaySpec)

/-- ITS FALSE NEIGHBOUR: 'it returns false'. Refute it at one input. -/
def fnExactIsOnWayWrong : ChangeSpec := { name := "fnExactIsOnWay", vars := ["loop.example/g01265/impl.digitBars"], fn := fun _ => fun
  | [d1, d2, g1] => { results := [.lit (.bool false)], args := [d1, d2], vars := [g1] }
  | _ => none }
def FnExactIsOnWayWrongFalsely : Prop := fnExactIsOnWayRow.holds Tryd.pinned (OpenSpec.ofChange fnExactIsOnWayWrong)

/-- 'laws.FnExactLightableBars': WHATEVER THE INPUT: true; the input reads as it did. -/
def fnExactLightableBarsSpec : ChangeSpec := { name := "fnExactLightableBars", vars := ["loop.example/g01265/impl.digitBars"], fn := fun _ => fun
  | [d1, d2, g1] => { results := [.lit (.bool true)], args := [d1, d2], vars := [g1] }
  | _ => none }
def fnExactLightableBarsRow : OpenClaim := { program := "ytfagllolcalfiaadoor", sum := "adecc89abc44a169dc8a2b13158b2f26de4bd6f86e0bdf8d2a6fc1f711290491", func := "loop.example/g01265/laws.FnExactLightableBars", spec := "fnExactLightableBars", inPlace := ["internal/bytealg.IndexByteString", "internal/bytealg.IndexString", "internal/abi.NoEscape"], named := ["loop.example/g01265/impl.digitBars", "internal/bytealg.MaxLen"], apart := false, laid := [("loop.example/g01265/impl.digitBars", laid_loop_example_g01265_impl_digitBars)] }
def FnExactLightableBarsSaid : Prop := fnExactLightableBarsRow.holds Tryd.pinned (OpenSpec.ofChange fnExactLightableBarsSpec)

/-- ITS FALSE NEIGHBOUR: 'it returns false'. Refute it at one input. -/
def fnExactLightableBarsWrong : ChangeSpec := { name := "fnExactLightableBars", vars := ["loop.example/g01265/impl.digitBars"], fn := fun _ => fun
  | [d1, d2, g1] => { results := [.lit (.bool false)], args := [d1, d2], vars := [g1] }
  | _ => none }
def FnExactLightableBarsWrongFalsely : Prop := fnExactLightableBarsRow.holds Tryd.pinned (OpenSpec.ofChange fnExactLightableBarsWrong)

/-- 'laws.FnExactCellNumber': WHATEVER THE INPUT: true; the input reads as it did. -/
def fnExactCellNumberSpec : ChangeSpec := { name := "fnExactCellNumber", vars := ["loop.example/g01265/impl.digitBars"], fn := fun _ => fun
  | [d1, d2, g1] => { results := [.lit (.bool true)], args := [d1, d2], vars := [g1] }
  | _ => none }
def fnExactCellNumberRow : OpenClaim := { program := "ytfagllolcalfiaadoor", sum := "adecc89abc44a169dc8a2b13158b2f26de4bd6f86e0bdf8d2a6fc1f711290491", func := "loop.example/g01265/laws.FnExactCellNumber", spec := "fnExactCellNumber", inPlace := ["internal/bytealg.IndexByteString", "internal/bytealg.IndexString"], unfollowed := true, recurses := true, named := ["loop.example/g01265/impl.digitBars", "internal/bytealg.MaxLen"], apart := false, laid := [("loop.example/g01265/impl.digitBars", laid_loop_example_g01265_impl_digitBars)] }
def FnExactCellNumberSaid : Prop := fnExactCellNumberRow.holds Tryd.pinned (OpenSpec.ofChange fnExactCellNumberSpec)

/-- ITS FALSE NEIGHBOUR: 'it returns false'. Refute it at one input. -/
def fnExactCellNumberWrong : ChangeSpec := { name := "fnExactCellNumber", vars := ["loop.example/g01265/impl.digitBars"], fn := fun _ => fun
  | [d1, d2, g1] => { results := [.lit (.bool false)], args := [d1, d2], vars := [g1] }
  | _ => none }
def FnExactCellNumberWrongFalsely : Prop := fnExactCellNumberRow.holds Tryd.pinned (OpenSpec.ofChange fnExactCellNumberWrong)

/-- 'laws.FnExactLightWins': WHATEVER THE INPUT: true; the input reads as it did. -/
def fnExactLightWinsSpec : ChangeSpec := { name := "fnExactLightWins", vars := ["loop.example/g01265/impl.digitBars"], fn := fun _ => fun
  | [d1, d2, g1] => { results := [.lit (.bool true)], args := [d1, d2], vars := [g1] }
  | _ => none }
def fnExactLightWinsRow : OpenClaim := { program := "ytfagllolcalfiaadoor", sum := "adecc89abc44a169dc8a2b13158b2f26de4bd6f86e0bdf8d2a6fc1f711290491", func := "loop.example/g01265/laws.FnExactLightWins", spec := "fnExactLightWins", inPlace := ["internal/bytealg.IndexByteString", "internal/bytealg.IndexString"], unfollowed := true, recurses := true, named := ["loop.example/g01265/impl.digitBars", "internal/bytealg.MaxLen"], apart := false, laid := [("loop.example/g01265/impl.digitBars", laid_loop_example_g01265_impl_digitBars)] }
def FnExactLightWinsSaid : Prop := fnExactLightWinsRow.holds Tryd.pinned (OpenSpec.ofChange fnExactLightWinsSpec)

/-- ITS FALSE NEIGHBOUR: 'it returns false'. Refute it at one input. -/
def fnExactLightWinsWrong : ChangeSpec := { name := "fnExactLightWins", vars := ["loop.example/g01265/impl.digitBars"], fn := fun _ => fun
  | [d1, d2, g1] => { results := [.lit (.bool false)], args := [d1, d2], vars := [g1] }
  | _ => none }
def FnExactLightWinsWrongFalsely : Prop := fnExactLightWinsRow.holds Tryd.pinned (OpenSpec.ofChange fnExactLightWinsWrong)

/-- 'laws.FnExactWinningMoves': WHATEVER THE INPUT: true; the input reads as it did. -/
def fnExactWinningMovesSpec : ChangeSpec := { name := "fnExactWinningMoves", vars := ["loop.example/g01265/impl.digitBars"], fn := fun _ => fun
  | [d1, d2, g1] => { results := [.lit (.bool true)], args := [d1, d2], vars := [g1] }
  | _ => none }
def fnExactWinningMovesRow : OpenClaim := { program := "ytfagllolcalfiaadoor", sum := "adecc89abc44a169dc8a2b13158b2f26de4bd6f86e0bdf8d2a6fc1f711290491", func := "loop.example/g01265/laws.FnExactWinningMoves", spec := "fnExactWinningMoves", inPlace := ["internal/bytealg.IndexByteString", "internal/bytealg.IndexString"], unfollowed := true, recurses := true, named := ["loop.example/g01265/impl.digitBars", "internal/bytealg.MaxLen"], apart := false, laid := [("loop.example/g01265/impl.digitBars", laid_loop_example_g01265_impl_digitBars)] }
def FnExactWinningMovesSaid : Prop := fnExactWinningMovesRow.holds Tryd.pinned (OpenSpec.ofChange fnExactWinningMovesSpec)

/-- ITS FALSE NEIGHBOUR: 'it returns false'. Refute it at one input. -/
def fnExactWinningMovesWrong : ChangeSpec := { name := "fnExactWinningMoves", vars := ["loop.example/g01265/impl.digitBars"], fn := fun _ => fun
  | [d1, d2, g1] => { results := [.lit (.bool false)], args := [d1, d2], vars := [g1] }
  | _ => none }
def FnExactWinningMovesWrongFalsely : Prop := fnExactWinningMovesRow.holds Tryd.pinned (OpenSpec.ofChange fnExactWinningMovesWrong)

/-- 'laws.FnExactMissWins': WHATEVER THE INPUT: true; the input reads as it did. -/
def fnExactMissWinsSpec : ChangeSpec := { name := "fnExactMissWins", vars := ["loop.example/g01265/impl.digitBars"], fn := fun _ => fun
  | [d1, d2, g1] => { results := [.lit (.bool true)], args := [d1, d2], vars := [g1] }
  | _ => none }
def fnExactMissWinsRow : OpenClaim := { program := "ytfagllolcalfiaadoor", sum := "adecc89abc44a169dc8a2b13158b2f26de4bd6f86e0bdf8d2a6fc1f711290491", func := "loop.example/g01265/laws.FnExactMissWins", spec := "fnExactMissWins", inPlace := ["internal/bytealg.IndexByteString", "internal/bytealg.IndexString"], unfollowed := true, recurses := true, named := ["loop.example/g01265/impl.digitBars", "internal/bytealg.MaxLen"], apart := false, laid := [("loop.example/g01265/impl.digitBars", laid_loop_example_g01265_impl_digitBars)] }
def FnExactMissWinsSaid : Prop := fnExactMissWinsRow.holds Tryd.pinned (OpenSpec.ofChange fnExactMissWinsSpec)

/-- ITS FALSE NEIGHBOUR: 'it returns false'. Refute it at one input. -/
def fnExactMissWinsWrong : ChangeSpec := { name := "fnExactMissWins", vars := ["loop.example/g01265/impl.digitBars"], fn := fun _ => fun
  | [d1, d2, g1] => { results := [.lit (.bool false)], args := [d1, d2], vars := [g1] }
  | _ => none }
def FnExactMissWinsWrongFalsely : Prop := fnExactMissWinsRow.holds Tryd.pinned (OpenSpec.ofChange fnExactMissWinsWrong)

/-- 'laws.FnExactRaceWins': WHATEVER THE INPUT: true; the input reads as it did. -/
def fnExactRaceWinsSpec : ChangeSpec := { name := "fnExactRaceWins", vars := ["loop.example/g01265/impl.digitBars"], fn := fun _ => fun
  | [d1, d2, g1] => { results := [.lit (.bool true)], args := [d1, d2], vars := [g1] }
  | _ => none }
def fnExactRaceWinsRow : OpenClaim := { program := "ytfagllolcalfiaadoor", sum := "adecc89abc44a169dc8a2b13158b2f26de4bd6f86e0bdf8d2a6fc1f711290491", func := "loop.example/g01265/laws.FnExactRaceWins", spec := "fnExactRaceWins", inPlace := ["internal/bytealg.IndexByteString", "internal/bytealg.IndexString"], unfollowed := true, recurses := true, named := ["loop.example/g01265/impl.digitBars", "internal/bytealg.MaxLen"], apart := false, laid := [("loop.example/g01265/impl.digitBars", laid_loop_example_g01265_impl_digitBars)] }
def FnExactRaceWinsSaid : Prop := fnExactRaceWinsRow.holds Tryd.pinned (OpenSpec.ofChange fnExactRaceWinsSpec)

/-- ITS FALSE NEIGHBOUR: 'it returns false'. Refute it at one input. -/
def fnExactRaceWinsWrong : ChangeSpec := { name := "fnExactRaceWins", vars := ["loop.example/g01265/impl.digitBars"], fn := fun _ => fun
  | [d1, d2, g1] => { results := [.lit (.bool false)], args := [d1, d2], vars := [g1] }
  | _ => none }
def FnExactRaceWinsWrongFalsely : Prop := fnExactRaceWinsRow.holds Tryd.pinned (OpenSpec.ofChange fnExactRaceWinsWrong)

/-- 'laws.FnExactLongestPlay': WHATEVER THE INPUT: true; the input reads as it did. -/
def fnExactLongestPlaySpec : ChangeSpec := { name := "fnExactLongestPlay", vars := ["loop.example/g01265/impl.digitBars"], fn := fun _ => fun
  | [d1, d2, g1] => { results := [.lit (.bool true)], args := [d1, d2], vars := [g1] }
  | _ => none }
def fnExactLongestPlayRow : OpenClaim := { program := "ytfagllolcalfiaadoor", sum := "adecc89abc44a169dc8a2b13158b2f26de4bd6f86e0bdf8d2a6fc1f711290491", func := "loop.example/g01265/laws.FnExactLongestPlay", spec := "fnExactLongestPlay", inPlace := ["internal/bytealg.IndexByteString", "internal/bytealg.IndexString"], recurses := true, named := ["loop.example/g01265/impl.digitBars", "internal/bytealg.MaxLen"], apart := false, laid := [("loop.example/g01265/impl.digitBars", laid_loop_example_g01265_impl_digitBars)] }
def FnExactLongestPlaySaid : Prop := fnExactLongestPlayRow.holds Tryd.pinned (OpenSpec.ofChange fnExactLongestPlaySpec)

/-- ITS FALSE NEIGHBOUR: 'it returns false'. Refute it at one input. -/
def fnExactLongestPlayWrong : ChangeSpec := { name := "fnExactLongestPlay", vars := ["loop.example/g01265/impl.digitBars"], fn := fun _ => fun
  | [d1, d2, g1] => { results := [.lit (.bool false)], args := [d1, d2], vars := [g1] }
  | _ => none }
def FnExactLongestPlayWrongFalsely : Prop := fnExactLongestPlayRow.holds Tryd.pinned (OpenSpec.ofChange fnExactLongestPlayWrong)

/-- 'laws.FnExactShortestPlay': WHATEVER THE INPUT: true; the input reads as it did. -/
def fnExactShortestPlaySpec : ChangeSpec := { name := "fnExactShortestPlay", vars := ["loop.example/g01265/impl.digitBars"], fn := fun _ => fun
  | [d1, d2, g1] => { results := [.lit (.bool true)], args := [d1, d2], vars := [g1] }
  | _ => none }
def fnExactShortestPlayRow : OpenClaim := { program := "ytfagllolcalfiaadoor", sum := "adecc89abc44a169dc8a2b13158b2f26de4bd6f86e0bdf8d2a6fc1f711290491", func := "loop.example/g01265/laws.FnExactShortestPlay", spec := "fnExactShortestPlay", inPlace := ["internal/bytealg.IndexByteString", "internal/bytealg.IndexString"], recurses := true, named := ["loop.example/g01265/impl.digitBars", "internal/bytealg.MaxLen"], apart := false, laid := [("loop.example/g01265/impl.digitBars", laid_loop_example_g01265_impl_digitBars)] }
def FnExactShortestPlaySaid : Prop := fnExactShortestPlayRow.holds Tryd.pinned (OpenSpec.ofChange fnExactShortestPlaySpec)

/-- ITS FALSE NEIGHBOUR: 'it returns false'. Refute it at one input. -/
def fnExactShortestPlayWrong : ChangeSpec := { name := "fnExactShortestPlay", vars := ["loop.example/g01265/impl.digitBars"], fn := fun _ => fun
  | [d1, d2, g1] => { results := [.lit (.bool false)], args := [d1, d2], vars := [g1] }
  | _ => none }
def FnExactShortestPlayWrongFalsely : Prop := fnExactShortestPlayRow.holds Tryd.pinned (OpenSpec.ofChange fnExactShortestPlayWrong)

/-- 'laws.FnExactCountPlays': WHATEVER THE INPUT: true; the input reads as it did. -/
def fnExactCountPlaysSpec : ChangeSpec := { name := "fnExactCountPlays", vars := ["loop.example/g01265/impl.digitBars"], fn := fun _ => fun
  | [d1, d2, g1] => { results := [.lit (.bool true)], args := [d1, d2], vars := [g1] }
  | _ => none }
def fnExactCountPlaysRow : OpenClaim := { program := "ytfagllolcalfiaadoor", sum := "adecc89abc44a169dc8a2b13158b2f26de4bd6f86e0bdf8d2a6fc1f711290491", func := "loop.example/g01265/laws.FnExactCountPlays", spec := "fnExactCountPlays", inPlace := ["internal/bytealg.IndexByteString", "internal/bytealg.IndexString"], recurses := true, named := ["loop.example/g01265/impl.digitBars", "internal/bytealg.MaxLen"], apart := false, laid := [("loop.example/g01265/impl.digitBars", laid_loop_example_g01265_impl_digitBars)] }
def FnExactCountPlaysSaid : Prop := fnExactCountPlaysRow.holds Tryd.pinned (OpenSpec.ofChange fnExactCountPlaysSpec)

/-- ITS FALSE NEIGHBOUR: 'it returns false'. Refute it at one input. -/
def fnExactCountPlaysWrong : ChangeSpec := { name := "fnExactCountPlays", vars := ["loop.example/g01265/impl.digitBars"], fn := fun _ => fun
  | [d1, d2, g1] => { results := [.lit (.bool false)], args := [d1, d2], vars := [g1] }
  | _ => none }
def FnExactCountPlaysWrongFalsely : Prop := fnExactCountPlaysRow.holds Tryd.pinned (OpenSpec.ofChange fnExactCountPlaysWrong)

/- THE SECOND FORM. 'bulk': how many values and letters a reading holds, each counted each time it is reached (what is shared counts as often as it is met; a slice's spare places count too). A statement '..UptoSaid' is the law's where the arguments, and the package variables that the reading takes, are together of bulk at most 1048576: NARROWER than '..Said'. Prove '..Said' where nothing that the law and all that it calls make is longer than what came in: it says more and counts as full. Else prove '..UptoSaid'. A law counts once. -/
mutual
def uptoBulk {H : Type} : DataW H → Nat
  | .lit (.string bytes) => bytes.length + 1
  | .lit _ => 1
  | .nil => 1
  | .ptr d => uptoBulk d + 1
  | .slice elems spare => uptoBulkAll elems + uptoBulkAll spare + 1
  | .agg parts => uptoBulkAll parts + 1
  | .iface _ d => uptoBulk d + 1
  | .map entries => uptoBulkEntries entries + 1
  | .held _ => 1
def uptoBulkAll {H : Type} : List (DataW H) → Nat
  | [] => 0
  | d :: r => uptoBulk d + uptoBulkAll r
def uptoBulkEntries {H : Type} : List (Lit × DataW H) → Nat
  | [] => 0
  | x :: r => uptoBulkEntry x + uptoBulkEntries r
def uptoBulkEntry {H : Type} : Lit × DataW H → Nat
  | (.string bytes, d) => bytes.length + uptoBulk d + 1
  | (_, d) => uptoBulk d + 1
 end
def uptoSmall : (H : Type) → List (DataW H) → Bool := fun _ ds => decide (uptoBulkAll ds ≤ 1048576)
def OpenSpec.upto (s : _root_.Go.ChangeSpec) : _root_.Go.OpenSpec := { _root_.Go.OpenSpec.ofChange s with cond := some uptoSmall }

/-- 'laws.FnLighting', WHERE WHAT IT READS IS OF BULK AT MOST 1048576: true; the input reads as it did. -/
def fnLightingUptoRow : OpenClaim := { program := "ytfagllolcalfiaadoor", sum := "adecc89abc44a169dc8a2b13158b2f26de4bd6f86e0bdf8d2a6fc1f711290491", func := "loop.example/g01265/laws.FnLighting", spec := "fnLighting", inPlace := ["internal/bytealg.IndexByteString", "internal/bytealg.IndexString", "internal/abi.NoEscape"], unfollowed := true, recurses := true, named := ["loop.example/g01265/impl.digitBars", "internal/bytealg.MaxLen"], apart := false, laid := [("loop.example/g01265/impl.digitBars", laid_loop_example_g01265_impl_digitBars)], narrowed := true }
def FnLightingUptoSaid : Prop := fnLightingUptoRow.holds Tryd.pinned (OpenSpec.upto fnLightingSpec)

/-- 'laws.FnExactIsGoal', WHERE WHAT IT READS IS OF BULK AT MOST 1048576: true; the input reads as it did. -/
def fnExactIsGoalUptoRow : OpenClaim := { program := "ytfagllolcalfiaadoor", sum := "adecc89abc44a169dc8a2b13158b2f26de4bd6f86e0bdf8d2a6fc1f711290491", func := "loop.example/g01265/laws.FnExactIsGoal", spec := "fnExactIsGoal", inPlace := ["internal/bytealg.IndexByteString", "internal/bytealg.IndexString"], named := ["loop.example/g01265/impl.digitBars", "internal/bytealg.MaxLen"], apart := false, laid := [("loop.example/g01265/impl.digitBars", laid_loop_example_g01265_impl_digitBars)], narrowed := true }
def FnExactIsGoalUptoSaid : Prop := fnExactIsGoalUptoRow.holds Tryd.pinned (OpenSpec.upto fnExactIsGoalSpec)

/-- 'laws.FnExactIsOnWay', WHERE WHAT IT READS IS OF BULK AT MOST 1048576: true; the input reads as it did. -/
def fnExactIsOnWayUptoRow : OpenClaim := { program := "ytfagllolcalfiaadoor", sum := "adecc89abc44a169dc8a2b13158b2f26de4bd6f86e0bdf8d2a6fc1f711290491", func := "loop.example/g01265/laws.FnExactIsOnWay", spec := "fnExactIsOnWay", inPlace := ["internal/bytealg.IndexByteString", "internal/bytealg.IndexString"], named := ["loop.example/g01265/impl.digitBars", "internal/bytealg.MaxLen"], apart := false, laid := [("loop.example/g01265/impl.digitBars", laid_loop_example_g01265_impl_digitBars)], narrowed := true }
def FnExactIsOnWayUptoSaid : Prop := fnExactIsOnWayUptoRow.holds Tryd.pinned (OpenSpec.upto fnExactIsOnWaySpec)

/-- 'laws.FnExactLightableBars', WHERE WHAT IT READS IS OF BULK AT MOST 1048576: true; the input reads as it did. -/
def fnExactLightableBarsUptoRow : OpenClaim := { program := "ytfagllolcalfiaadoor", sum := "adecc89abc44a169dc8a2b13158b2f26de4bd6f86e0bdf8d2a6fc1f711290491", func := "loop.example/g01265/laws.FnExactLightableBars", spec := "fnExactLightableBars", inPlace := ["internal/bytealg.IndexByteString", "internal/bytealg.IndexString", "internal/abi.NoEscape"], named := ["loop.example/g01265/impl.digitBars", "internal/bytealg.MaxLen"], apart := false, laid := [("loop.example/g01265/impl.digitBars", laid_loop_example_g01265_impl_digitBars)], narrowed := true }
def FnExactLightableBarsUptoSaid : Prop := fnExactLightableBarsUptoRow.holds Tryd.pinned (OpenSpec.upto fnExactLightableBarsSpec)

/-- 'laws.FnExactCellNumber', WHERE WHAT IT READS IS OF BULK AT MOST 1048576: true; the input reads as it did. -/
def fnExactCellNumberUptoRow : OpenClaim := { program := "ytfagllolcalfiaadoor", sum := "adecc89abc44a169dc8a2b13158b2f26de4bd6f86e0bdf8d2a6fc1f711290491", func := "loop.example/g01265/laws.FnExactCellNumber", spec := "fnExactCellNumber", inPlace := ["internal/bytealg.IndexByteString", "internal/bytealg.IndexString"], unfollowed := true, recurses := true, named := ["loop.example/g01265/impl.digitBars", "internal/bytealg.MaxLen"], apart := false, laid := [("loop.example/g01265/impl.digitBars", laid_loop_example_g01265_impl_digitBars)], narrowed := true }
def FnExactCellNumberUptoSaid : Prop := fnExactCellNumberUptoRow.holds Tryd.pinned (OpenSpec.upto fnExactCellNumberSpec)

/-- 'laws.FnExactLightWins', WHERE WHAT IT READS IS OF BULK AT MOST 1048576: true; the input reads as it did. -/
def fnExactLightWinsUptoRow : OpenClaim := { program := "ytfagllolcalfiaadoor", sum := "adecc89abc44a169dc8a2b13158b2f26de4bd6f86e0bdf8d2a6fc1f711290491", func := "loop.example/g01265/laws.FnExactLightWins", spec := "fnExactLightWins", inPlace := ["internal/bytealg.IndexByteString", "internal/bytealg.IndexString"], unfollowed := true, recurses := true, named := ["loop.example/g01265/impl.digitBars", "internal/bytealg.MaxLen"], apart := false, laid := [("loop.example/g01265/impl.digitBars", laid_loop_example_g01265_impl_digitBars)], narrowed := true }
def FnExactLightWinsUptoSaid : Prop := fnExactLightWinsUptoRow.holds Tryd.pinned (OpenSpec.upto fnExactLightWinsSpec)

/-- 'laws.FnExactWinningMoves', WHERE WHAT IT READS IS OF BULK AT MOST 1048576: true; the input reads as it did. -/
def fnExactWinningMovesUptoRow : OpenClaim := { program := "ytfagllolcalfiaadoor", sum := "adecc89abc44a169dc8a2b13158b2f26de4bd6f86e0bdf8d2a6fc1f711290491", func := "loop.example/g01265/laws.FnExactWinningMoves", spec := "fnExactWinningMoves", inPlace := ["internal/bytealg.IndexByteString", "internal/bytealg.IndexString"], unfollowed := true, recurses := true, named := ["loop.example/g01265/impl.digitBars", "internal/bytealg.MaxLen"], apart := false, laid := [("loop.example/g01265/impl.digitBars", laid_loop_example_g01265_impl_digitBars)], narrowed := true }
def FnExactWinningMovesUptoSaid : Prop := fnExactWinningMovesUptoRow.holds Tryd.pinned (OpenSpec.upto fnExactWinningMovesSpec)

/-- 'laws.FnExactMissWins', WHERE WHAT IT READS IS OF BULK AT MOST 1048576: true; the input reads as it did. -/
def fnExactMissWinsUptoRow : OpenClaim := { program := "ytfagllolcalfiaadoor", sum := "adecc89abc44a169dc8a2b13158b2f26de4bd6f86e0bdf8d2a6fc1f711290491", func := "loop.example/g01265/laws.FnExactMissWins", spec := "fnExactMissWins", inPlace := ["internal/bytealg.IndexByteString", "internal/bytealg.IndexString"], unfollowed := true, recurses := true, named := ["loop.example/g01265/impl.digitBars", "internal/bytealg.MaxLen"], apart := false, laid := [("loop.example/g01265/impl.digitBars", laid_loop_example_g01265_impl_digitBars)], narrowed := true }
def FnExactMissWinsUptoSaid : Prop := fnExactMissWinsUptoRow.holds Tryd.pinned (OpenSpec.upto fnExactMissWinsSpec)

/-- 'laws.FnExactRaceWins', WHERE WHAT IT READS IS OF BULK AT MOST 1048576: true; the input reads as it did. -/
def fnExactRaceWinsUptoRow : OpenClaim := { program := "ytfagllolcalfiaadoor", sum := "adecc89abc44a169dc8a2b13158b2f26de4bd6f86e0bdf8d2a6fc1f711290491", func := "loop.example/g01265/laws.FnExactRaceWins", spec := "fnExactRaceWins", inPlace := ["internal/bytealg.IndexByteString", "internal/bytealg.IndexString"], unfollowed := true, recurses := true, named := ["loop.example/g01265/impl.digitBars", "internal/bytealg.MaxLen"], apart := false, laid := [("loop.example/g01265/impl.digitBars", laid_loop_example_g01265_impl_digitBars)], narrowed := true }
def FnExactRaceWinsUptoSaid : Prop := fnExactRaceWinsUptoRow.holds Tryd.pinned (OpenSpec.upto fnExactRaceWinsSpec)

/-- 'laws.FnExactLongestPlay', WHERE WHAT IT READS IS OF BULK AT MOST 1048576: true; the input reads as it did. -/
def fnExactLongestPlayUptoRow : OpenClaim := { program := "ytfagllolcalfiaadoor", sum := "adecc89abc44a169dc8a2b13158b2f26de4bd6f86e0bdf8d2a6fc1f711290491", func := "loop.example/g01265/laws.FnExactLongestPlay", spec := "fnExactLongestPlay", inPlace := ["internal/bytealg.IndexByteString", "internal/bytealg.IndexString"], recurses := true, named := ["loop.example/g01265/impl.digitBars", "internal/bytealg.MaxLen"], apart := false, laid := [("loop.example/g01265/impl.digitBars", laid_loop_example_g01265_impl_digitBars)], narrowed := true }
def FnExactLongestPlayUptoSaid : Prop := fnExactLongestPlayUptoRow.holds Tryd.pinned (OpenSpec.upto fnExactLongestPlaySpec)

/-- 'laws.FnExactShortestPlay', WHERE WHAT IT READS IS OF BULK AT MOST 1048576: true; the input reads as it did. -/
def fnExactShortestPlayUptoRow : OpenClaim := { program := "ytfagllolcalfiaadoor", sum := "adecc89abc44a169dc8a2b13158b2f26de4bd6f86e0bdf8d2a6fc1f711290491", func := "loop.example/g01265/laws.FnExactShortestPlay", spec := "fnExactShortestPlay", inPlace := ["internal/bytealg.IndexByteString", "internal/bytealg.IndexString"], recurses := true, named := ["loop.example/g01265/impl.digitBars", "internal/bytealg.MaxLen"], apart := false, laid := [("loop.example/g01265/impl.digitBars", laid_loop_example_g01265_impl_digitBars)], narrowed := true }
def FnExactShortestPlayUptoSaid : Prop := fnExactShortestPlayUptoRow.holds Tryd.pinned (OpenSpec.upto fnExactShortestPlaySpec)

/-- 'laws.FnExactCountPlays', WHERE WHAT IT READS IS OF BULK AT MOST 1048576: true; the input reads as it did. -/
def fnExactCountPlaysUptoRow : OpenClaim := { program := "ytfagllolcalfiaadoor", sum := "adecc89abc44a169dc8a2b13158b2f26de4bd6f86e0bdf8d2a6fc1f711290491", func := "loop.example/g01265/laws.FnExactCountPlays", spec := "fnExactCountPlays", inPlace := ["internal/bytealg.IndexByteString", "internal/bytealg.IndexString"], recurses := true, named := ["loop.example/g01265/impl.digitBars", "internal/bytealg.MaxLen"], apart := false, laid := [("loop.example/g01265/impl.digitBars", laid_loop_example_g01265_impl_digitBars)], narrowed := true }
def FnExactCountPlaysUptoSaid : Prop := fnExactCountPlaysUptoRow.holds Tryd.pinned (OpenSpec.upto fnExactCountPlaysSpec)

end Rows
end Go.Proofs.YtfagllolcalfiaaDoor
