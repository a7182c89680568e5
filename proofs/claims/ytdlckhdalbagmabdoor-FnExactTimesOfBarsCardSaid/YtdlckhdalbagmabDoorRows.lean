/-
  NARROWER THAN 'FOR EVERY INPUT', by the rows' own cells (each row's printed sentence says how): FnExactWaitForMirror: laid · FnExactApartInMirror: laid · FnExactLitAt: laid · FnExactBrightestTime: laid · FnExactDarkestTime: laid · FnExactMinuteChanges: laid · FnExactTimesLike: laid · FnExactTimesOfBars: laid.
  DERIVED. THE GIVEN ROWS OF THIS SEAT. 8 by the template 'for every input the law returns true; each argument reads behind the call as it read before'; 0 by the template 'total and deterministic' (their statements: YtdlckhdalbagmabDoorTotals.lean).
  GIVEN WITH THE SEED: the statements are not yours to turn. If you find one false, say at which input.
  Laid BY PROGRAM, IN A SANDBOX (cutbox-rows.mjs): the forced cells as the released guide's own fill.sh prints them over the translation 3b9f862f865a7d31… (all of the seat's roots in one cut). By AI agents, Wed Nov 11 2026. No macro, syntax, notation, axiom, sorry.
-/
import Derived.Test.YtdlckhdalbagmabDoorChecked
import GoSem.Claim
import GoSem.ClaimJoined
import GoSem.ClaimMapViews
import Derived.JoinedTies
import Derived.KernelRfl
namespace Go.Proofs.YtdlckhdalbagmabDoor
/- THE CELL 'sum', in the pinned program and in every row, IS THE sha256 OF THE DUMP (.gsa) THAT YtdlckhdalbagmabDoorProg.lean LOADS. Nothing in Lean hashes anything: it is a label: what it is worth is what the hold of that sum in a sandbox is worth. -/
noncomputable def Tryd.pinned : Pinned := { name := "ytdlckhdalbagmabdoor", sum := "3b9f862f865a7d31e04e1316acd76e0f13fc868985e28d4ef8c1be83aecd22af", checked := Tryd.checked }
namespace Rows
def none {H : Type} : Left H := { results := [], args := [] }

/- WHAT THE LISTED PACKAGE-LEVEL VARIABLES READ AS WHEN THE CALL BEGINS. Each datum BY PROGRAM (the guide's laid-datum.mjs) off the statement by which the dump's own 'gosem.cut.vars' lays the variable. In a bare row this is a premise. The card (YtdlckhdalbagmabDoorCards.lean) ties it to the program's text. -/
def laid_loop_example_g01265_impl_digitBars {H : Type} : DataW H := .agg [.lit (.string [97, 98, 99, 100, 101, 102]), .lit (.string [98, 99]), .lit (.string [97, 98, 100, 101, 103]), .lit (.string [97, 98, 99, 100, 103]), .lit (.string [98, 99, 102, 103]), .lit (.string [97, 99, 100, 102, 103]), .lit (.string [97, 99, 100, 101, 102, 103]), .lit (.string [97, 98, 99]), .lit (.string [97, 98, 99, 100, 101, 102, 103]), .lit (.string [97, 98, 99, 100, 102, 103])]

/-- 'laws.FnExactWaitForMirror': WHATEVER THE INPUT: true; the input reads as it did. -/
def fnExactWaitForMirrorSpec : ChangeSpec := { name := "fnExactWaitForMirror", vars := ["loop.example/g01265/impl.digitBars"], fn := fun _ => fun
  | [d, g1] => { results := [.lit (.bool true)], args := [d], vars := [g1] }
  | _ => none }
def fnExactWaitForMirrorRow : OpenClaim := { program := "ytdlckhdalbagmabdoor", sum := "3b9f862f865a7d31e04e1316acd76e0f13fc868985e28d4ef8c1be83aecd22af", func := "loop.example/g01265/laws.FnExactWaitForMirror", spec := "fnExactWaitForMirror", inPlace := ["internal/bytealg.IndexByteString", "internal/bytealg.IndexString"], unfollowed := true, recurses := true, named := ["loop.example/g01265/impl.digitBars", "internal/bytealg.MaxLen"], apart := false, laid := [("loop.example/g01265/impl.digitBars", laid_loop_example_g01265_impl_digitBars)] }
def FnExactWaitForMirrorSaid : Prop := fnExactWaitForMirrorRow.holds Tryd.pinned (OpenSpec.ofChange fnExactWaitForMirrorSpec)

/-- ITS FALSE NEIGHBOUR: 'it returns false'. Refute it at one input. -/
def fnExactWaitForMirrorWrong : ChangeSpec := { name := "fnExactWaitForMirror", vars := ["loop.example/g01265/impl.digitBars"], fn := fun _ => fun
  | [d, g1] => { results := [.lit (.bool false)], args := [d], vars := [g1] }
  | _ => none }
def FnExactWaitForMirrorWrongFalsely : Prop := fnExactWaitForMirrorRow.holds Tryd.pinned (OpenSpec.ofChange fnExactWaitForMirrorWrong)

/-- 'laws.FnExactApartInMirror': WHATEVER THE INPUT: true; the input reads as it did. -/
def fnExactApartInMirrorSpec : ChangeSpec := { name := "fnExactApartInMirror", vars := ["loop.example/g01265/impl.digitBars"], fn := fun _ => fun
  | [d, g1] => { results := [.lit (.bool true)], args := [d], vars := [g1] }
  | _ => none }
def fnExactApartInMirrorRow : OpenClaim := { program := "ytdlckhdalbagmabdoor", sum := "3b9f862f865a7d31e04e1316acd76e0f13fc868985e28d4ef8c1be83aecd22af", func := "loop.example/g01265/laws.FnExactApartInMirror", spec := "fnExactApartInMirror", inPlace := ["internal/bytealg.IndexByteString", "internal/bytealg.IndexString"], unfollowed := true, recurses := true, named := ["loop.example/g01265/impl.digitBars", "internal/bytealg.MaxLen"], apart := false, laid := [("loop.example/g01265/impl.digitBars", laid_loop_example_g01265_impl_digitBars)] }
def FnExactApartInMirrorSaid : Prop := fnExactApartInMirrorRow.holds Tryd.pinned (OpenSpec.ofChange fnExactApartInMirrorSpec)

/-- ITS FALSE NEIGHBOUR: 'it returns false'. Refute it at one input. -/
def fnExactApartInMirrorWrong : ChangeSpec := { name := "fnExactApartInMirror", vars := ["loop.example/g01265/impl.digitBars"], fn := fun _ => fun
  | [d, g1] => { results := [.lit (.bool false)], args := [d], vars := [g1] }
  | _ => none }
def FnExactApartInMirrorWrongFalsely : Prop := fnExactApartInMirrorRow.holds Tryd.pinned (OpenSpec.ofChange fnExactApartInMirrorWrong)

/-- 'laws.FnExactLitAt': WHATEVER THE INPUT: true; the input reads as it did. -/
def fnExactLitAtSpec : ChangeSpec := { name := "fnExactLitAt", vars := ["loop.example/g01265/impl.digitBars"], fn := fun _ => fun
  | [d, g1] => { results := [.lit (.bool true)], args := [d], vars := [g1] }
  | _ => none }
def fnExactLitAtRow : OpenClaim := { program := "ytdlckhdalbagmabdoor", sum := "3b9f862f865a7d31e04e1316acd76e0f13fc868985e28d4ef8c1be83aecd22af", func := "loop.example/g01265/laws.FnExactLitAt", spec := "fnExactLitAt", inPlace := ["internal/bytealg.IndexByteString", "internal/bytealg.IndexString"], named := ["loop.example/g01265/impl.digitBars", "internal/bytealg.MaxLen"], apart := false, laid := [("loop.example/g01265/impl.digitBars", laid_loop_example_g01265_impl_digitBars)] }
def FnExactLitAtSaid : Prop := fnExactLitAtRow.holds Tryd.pinned (OpenSpec.ofChange fnExactLitAtSpec)

/-- ITS FALSE NEIGHBOUR: 'it returns false'. Refute it at one input. -/
def fnExactLitAtWrong : ChangeSpec := { name := "fnExactLitAt", vars := ["loop.example/g01265/impl.digitBars"], fn := fun _ => fun
  | [d, g1] => { results := [.lit (.bool false)], args := [d], vars := [g1] }
  | _ => none }
def FnExactLitAtWrongFalsely : Prop := fnExactLitAtRow.holds Tryd.pinned (OpenSpec.ofChange fnExactLitAtWrong)

/-- 'laws.FnExactBrightestTime': WHATEVER THE INPUT: true; the input reads as it did. -/
def fnExactBrightestTimeSpec : ChangeSpec := { name := "fnExactBrightestTime", vars := ["loop.example/g01265/impl.digitBars"], fn := fun _ => fun
  | [g1] => { results := [.lit (.bool true)], args := [], vars := [g1] }
  | _ => none }
def fnExactBrightestTimeRow : OpenClaim := { program := "ytdlckhdalbagmabdoor", sum := "3b9f862f865a7d31e04e1316acd76e0f13fc868985e28d4ef8c1be83aecd22af", func := "loop.example/g01265/laws.FnExactBrightestTime", spec := "fnExactBrightestTime", inPlace := ["internal/bytealg.IndexByteString", "internal/bytealg.IndexString"], unfollowed := true, recurses := true, named := ["loop.example/g01265/impl.digitBars", "internal/bytealg.MaxLen"], apart := false, laid := [("loop.example/g01265/impl.digitBars", laid_loop_example_g01265_impl_digitBars)] }
def FnExactBrightestTimeSaid : Prop := fnExactBrightestTimeRow.holds Tryd.pinned (OpenSpec.ofChange fnExactBrightestTimeSpec)

/-- ITS FALSE NEIGHBOUR: 'it returns false'. Refute it at one input. -/
def fnExactBrightestTimeWrong : ChangeSpec := { name := "fnExactBrightestTime", vars := ["loop.example/g01265/impl.digitBars"], fn := fun _ => fun
  | [g1] => { results := [.lit (.bool false)], args := [], vars := [g1] }
  | _ => none }
def FnExactBrightestTimeWrongFalsely : Prop := fnExactBrightestTimeRow.holds Tryd.pinned (OpenSpec.ofChange fnExactBrightestTimeWrong)

/-- 'laws.FnExactDarkestTime': WHATEVER THE INPUT: true; the input reads as it did. -/
def fnExactDarkestTimeSpec : ChangeSpec := { name := "fnExactDarkestTime", vars := ["loop.example/g01265/impl.digitBars"], fn := fun _ => fun
  | [g1] => { results := [.lit (.bool true)], args := [], vars := [g1] }
  | _ => none }
def fnExactDarkestTimeRow : OpenClaim := { program := "ytdlckhdalbagmabdoor", sum := "3b9f862f865a7d31e04e1316acd76e0f13fc868985e28d4ef8c1be83aecd22af", func := "loop.example/g01265/laws.FnExactDarkestTime", spec := "fnExactDarkestTime", inPlace := ["internal/bytealg.IndexByteString", "internal/bytealg.IndexString"], unfollowed := true, recurses := true, named := ["loop.example/g01265/impl.digitBars", "internal/bytealg.MaxLen"], apart := false, laid := [("loop.example/g01265/impl.digitBars", laid_loop_example_g01265_impl_digitBars)] }
def FnExactDarkestTimeSaid : Prop := fnExactDarkestTimeRow.holds Tryd.pinned (OpenSpec.ofChange fnExactDarkestTimeSpec)

/-- ITS FALSE NEIGHBOUR: 'it returns false'. Refute it at one input. -/
def fnExactDarkestTimeWrong : ChangeSpec := { name := "fnExactDarkestTime", vars := ["loop.example/g01265/impl.digitBars"], fn := fun _ => fun
  | [g1] => { results := [.lit (.bool false)], args := [], vars := [g1] }
  | _ => none }
def FnExactDarkestTimeWrongFalsely : Prop := fnExactDarkestTimeRow.holds Tryd.pinned (OpenSpec.ofChange fnExactDarkestTimeWrong)

/-- 'laws.FnExactMinuteChanges': WHATEVER THE INPUT: true; the input reads as it did. -/
def fnExactMinuteChangesSpec : ChangeSpec := { name := "fnExactMinuteChanges", vars := ["loop.example/g01265/impl.digitBars"], fn := fun _ => fun
  | [d, g1] => { results := [.lit (.bool true)], args := [d], vars := [g1] }
  | _ => none }
def fnExactMinuteChangesRow : OpenClaim := { program := "ytdlckhdalbagmabdoor", sum := "3b9f862f865a7d31e04e1316acd76e0f13fc868985e28d4ef8c1be83aecd22af", func := "loop.example/g01265/laws.FnExactMinuteChanges", spec := "fnExactMinuteChanges", inPlace := ["internal/bytealg.IndexByteString", "internal/bytealg.IndexString"], named := ["loop.example/g01265/impl.digitBars", "internal/bytealg.MaxLen"], apart := false, laid := [("loop.example/g01265/impl.digitBars", laid_loop_example_g01265_impl_digitBars)] }
def FnExactMinuteChangesSaid : Prop := fnExactMinuteChangesRow.holds Tryd.pinned (OpenSpec.ofChange fnExactMinuteChangesSpec)

/-- ITS FALSE NEIGHBOUR: 'it returns false'. Refute it at one input. -/
def fnExactMinuteChangesWrong : ChangeSpec := { name := "fnExactMinuteChanges", vars := ["loop.example/g01265/impl.digitBars"], fn := fun _ => fun
  | [d, g1] => { results := [.lit (.bool false)], args := [d], vars := [g1] }
  | _ => none }
def FnExactMinuteChangesWrongFalsely : Prop := fnExactMinuteChangesRow.holds Tryd.pinned (OpenSpec.ofChange fnExactMinuteChangesWrong)

/-- 'laws.FnExactTimesLike': WHATEVER THE INPUT: true; the input reads as it did. -/
def fnExactTimesLikeSpec : ChangeSpec := { name := "fnExactTimesLike", vars := ["loop.example/g01265/impl.digitBars"], fn := fun _ => fun
  | [d, g1] => { results := [.lit (.bool true)], args := [d], vars := [g1] }
  | _ => none }
def fnExactTimesLikeRow : OpenClaim := { program := "ytdlckhdalbagmabdoor", sum := "3b9f862f865a7d31e04e1316acd76e0f13fc868985e28d4ef8c1be83aecd22af", func := "loop.example/g01265/laws.FnExactTimesLike", spec := "fnExactTimesLike", inPlace := ["internal/bytealg.IndexByteString", "internal/bytealg.IndexString"], unfollowed := true, recurses := true, named := ["loop.example/g01265/impl.digitBars", "internal/bytealg.MaxLen"], apart := false, laid := [("loop.example/g01265/impl.digitBars", laid_loop_example_g01265_impl_digitBars)] }
def FnExactTimesLikeSaid : Prop := fnExactTimesLikeRow.holds Tryd.pinned (OpenSpec.ofChange fnExactTimesLikeSpec)

/-- ITS FALSE NEIGHBOUR: 'it returns false'. Refute it at one input. -/
def fnExactTimesLikeWrong : ChangeSpec := { name := "fnExactTimesLike", vars := ["loop.example/g01265/impl.digitBars"], fn := fun _ => fun
  | [d, g1] => { results := [.lit (.bool false)], args := [d], vars := [g1] }
  | _ => none }
def FnExactTimesLikeWrongFalsely : Prop := fnExactTimesLikeRow.holds Tryd.pinned (OpenSpec.ofChange fnExactTimesLikeWrong)

/-- 'laws.FnExactTimesOfBars': WHATEVER THE INPUT: true; the input reads as it did. -/
def fnExactTimesOfBarsSpec : ChangeSpec := { name := "fnExactTimesOfBars", vars := ["loop.example/g01265/impl.digitBars"], fn := fun _ => fun
  | [d, g1] => { results := [.lit (.bool true)], args := [d], vars := [g1] }
  | _ => none }
def fnExactTimesOfBarsRow : OpenClaim := { program := "ytdlckhdalbagmabdoor", sum := "3b9f862f865a7d31e04e1316acd76e0f13fc868985e28d4ef8c1be83aecd22af", func := "loop.example/g01265/laws.FnExactTimesOfBars", spec := "fnExactTimesOfBars", inPlace := ["internal/bytealg.IndexByteString", "internal/bytealg.IndexString"], unfollowed := true, recurses := true, named := ["loop.example/g01265/impl.digitBars", "internal/bytealg.MaxLen"], apart := false, laid := [("loop.example/g01265/impl.digitBars", laid_loop_example_g01265_impl_digitBars)] }
def FnExactTimesOfBarsSaid : Prop := fnExactTimesOfBarsRow.holds Tryd.pinned (OpenSpec.ofChange fnExactTimesOfBarsSpec)

/-- ITS FALSE NEIGHBOUR: 'it returns false'. Refute it at one input. -/
def fnExactTimesOfBarsWrong : ChangeSpec := { name := "fnExactTimesOfBars", vars := ["loop.example/g01265/impl.digitBars"], fn := fun _ => fun
  | [d, g1] => { results := [.lit (.bool false)], args := [d], vars := [g1] }
  | _ => none }
def FnExactTimesOfBarsWrongFalsely : Prop := fnExactTimesOfBarsRow.holds Tryd.pinned (OpenSpec.ofChange fnExactTimesOfBarsWrong)

/- THE SECOND FORM. 'bulk': how many values and letters a reading holds, each counted each time it is reached (what is shared counts as often as it is met; a slice's spare places count too). A statement '..UptoSaid' is the law's where the arguments, and the package variables that the reading takes, are together of bulk at most 1048576: NARROWER than '..Said'. Prove '..Said' where nothing that the law and all that it calls make is longer than what came in: it says more and counts as full. Else prove '..UptoSaid'. A law counts once. -/
mutual
def uptoBulk {H : Type} : DataW H → Nat
  | .lit (.string bytes) => bytes.length + 1
  | .lit _ => 1
  | .nil => 1
  | .ptr d => uptoBulk d + 1
  | .slice elems spare => uptoBulkAll elems + uptoBulkAll spare + 1
  | .agg parts => uptoBulkAll parts + 1
  | .iface _ d => uptoBulk d + 1
  | .map entries => uptoBulkEntries entries + 1
  | .held _ => 1
def uptoBulkAll {H : Type} : List (DataW H) → Nat
  | [] => 0
  | d :: r => uptoBulk d + uptoBulkAll r
def uptoBulkEntries {H : Type} : List (Lit × DataW H) → Nat
  | [] => 0
  | x :: r => uptoBulkEntry x + uptoBulkEntries r
def uptoBulkEntry {H : Type} : Lit × DataW H → Nat
  | (.string bytes, d) => bytes.length + uptoBulk d + 1
  | (_, d) => uptoBulk d + 1
 end
def uptoSmall : (H : Type) → List (DataW H) → Bool := fun _ ds => decide (uptoBulkAll ds ≤ 1048576)
def OpenSpec.upto (s : _root_.Go.ChangeSpec) : _root_.Go.OpenSpec := { _root_.Go.OpenSpec.ofChange s with cond := some uptoSmall }

/-- 'laws.FnExactWaitForMirror', WHERE WHAT IT READS IS OF BULK AT MOST 1048576: true; the input reads as it did. -/
def fnExactWaitForMirrorUptoRow : OpenClaim := { program := "ytdlckhdalbagmabdoor", sum := "3b9f862f865a7d31e04e1316acd76e0f13fc868985e28d4ef8c1be83aecd22af", func := "loop.example/g01265/laws.FnExactWaitForMirror", spec := "fnExactWaitForMirror", inPlace := ["internal/bytealg.IndexByteString", "internal/bytealg.IndexString"], unfollowed := true, recurses := true, named := ["loop.example/g01265/impl.digitBars", "internal/bytealg.MaxLen"], apart := false, laid := [("loop.example/g01265/impl.digitBars", laid_loop_example_g01265_impl_digitBars)], narrowed := true }
def FnExactWaitForMirrorUptoSaid : Prop := fnExactWaitForMirrorUptoRow.holds Tryd.pinned (OpenSpec.upto fnExactWaitForMirrorSpec)

/-- 'laws.FnExactApartInMirror', WHERE WHAT IT READS IS OF BULK AT MOST 1048576: true; the input reads as it did. -/
def fnExactApartInMirrorUptoRow : OpenClaim := { program := "ytdlckhdalbagmabdoor", sum := "3b9f862f865a7d31e04e1316acd76e0f13fc868985e28d4ef8c1be83aecd22af", func := "loop.example/g01265/laws.FnExactApartInMirror", spec := "fnExactApartInMirror", inPlace := ["internal/bytealg.IndexByteString", "internal/bytealg.IndexString"], unfollowed := true, recurses := true, named := ["loop.example/g01265/impl.digitBars", "internal/bytealg.MaxLen"], apart := false, laid := [("loop.example/g01265/impl.digitBars", laid_loop_example_g01265_impl_digitBars)], narrowed := true }
def FnExactApartInMirrorUptoSaid : Prop := fnExactApartInMirrorUptoRow.holds Tryd.pinned (OpenSpec.upto fnExactApartInMirrorSpec)

/-- 'laws.FnExactLitAt', WHERE WHAT IT READS IS OF BULK AT MOST 1048576: true; the input reads as it did. -/
def fnExactLitAtUptoRow : OpenClaim := { program := "ytdlckhdalbagmabdoor", sum := "3b9f862f865a7d31e04e1316acd76e0f13fc868985e28d4ef8c1be83aecd22af", func := "loop.example/g01265/laws.FnExactLitAt", spec := "fnExactLitAt", inPlace := ["internal/bytealg.IndexByteString", "internal/bytealg.IndexString"], named := ["loop.example/g01265/impl.digitBars", "internal/bytealg.MaxLen"], apart := false, laid := [("loop.example/g01265/impl.digitBars", laid_loop_example_g01265_impl_digitBars)], narrowed := true }
def FnExactLitAtUptoSaid : Prop := fnExactLitAtUptoRow.holds Tryd.pinned (OpenSpec.upto fnExactLitAtSpec)

/-- 'laws.FnExactBrightestTime', WHERE WHAT IT READS IS OF BULK AT MOST 1048576: true; the input reads as it did. -/
def fnExactBrightestTimeUptoRow : OpenClaim := { program := "ytdlckhdalbagmabdoor", sum := "3b9f862f865a7d31e04e1316acd76e0f13fc868985e28d4ef8c1be83aecd22af", func := "loop.example/g01265/laws.FnExactBrightestTime", spec := "fnExactBrightestTime", inPlace := ["internal/bytealg.IndexByteString", "internal/bytealg.IndexString"], unfollowed := true, recurses := true, named := ["loop.example/g01265/impl.digitBars", "internal/bytealg.MaxLen"], apart := false, laid := [("loop.example/g01265/impl.digitBars", laid_loop_example_g01265_impl_digitBars)], narrowed := true }
def FnExactBrightestTimeUptoSaid : Prop := fnExactBrightestTimeUptoRow.holds Tryd.pinned (OpenSpec.upto fnExactBrightestTimeSpec)

/-- 'laws.FnExactDarkestTime', WHERE WHAT IT READS IS OF BULK AT MOST 1048576: true; the input reads as it did. -/
def fnExactDarkestTimeUptoRow : OpenClaim := { program := "ytdlckhdalbagmabdoor", sum := "3b9f862f865a7d31e04e1316acd76e0f13fc868985e28d4ef8c1be83aecd22af", func := "loop.example/g01265/laws.FnExactDarkestTime", spec := "fnExactDarkestTime", inPlace := ["internal/bytealg.IndexByteString", "internal/bytealg.IndexString"], unfollowed := true, recurses := true, named := ["loop.example/g01265/impl.digitBars", "internal/bytealg.MaxLen"], apart := false, laid := [("loop.example/g01265/impl.digitBars", laid_loop_example_g01265_impl_digitBars)], narrowed := true }
def FnExactDarkestTimeUptoSaid : Prop := fnExactDarkestTimeUptoRow.holds Tryd.pinned (OpenSpec.upto fnExactDarkestTimeSpec)

/-- 'laws.FnExactMinuteChanges', WHERE WHAT IT READS IS OF BULK AT MOST 1048576: true; the input reads as it did. -/
def fnExactMinuteChangesUptoRow : OpenClaim := { program := "ytdlckhdalbagmabdoor", sum := "3b9f862f865a7d31e04e1316acd76e0f13fc868985e28d4ef8c1be83aecd22af", func := "loop.example/g01265/laws.FnExactMinuteChanges", spec := "fnExactMinuteChanges", inPlace := ["internal/bytealg.IndexByteString", "internal/bytealg.IndexString"], named := ["loop.example/g01265/impl.digitBars", "internal/bytealg.MaxLen"], apart := false, laid := [("loop.example/g01265/impl.digitBars", laid_loop_example_g01265_impl_digitBars)], narrowed := true }
def FnExactMinuteChangesUptoSaid : Prop := fnExactMinuteChangesUptoRow.holds Tryd.pinned (OpenSpec.upto fnExactMinuteChangesSpec)

/-- 'laws.FnExactTimesLike', WHERE WHAT IT READS IS OF BULK AT MOST 1048576: true; the input reads as it did. -/
def fnExactTimesLikeUptoRow : OpenClaim := { program := "ytdlckhdalbagmabdoor", sum := "3b9f862f865a7d31e04e1316acd76e0f13fc868985e28d4ef8c1be83aecd22af", func := "loop.example/g01265/laws.FnExactTimesLike", spec := "fnExactTimesLike", inPlace := ["internal/bytealg.IndexByteString", "internal/bytealg.IndexString"], unfollowed := true, recurses := true, named := ["loop.example/g01265/impl.digitBars", "internal/bytealg.MaxLen"], apart := false, laid := [("loop.example/g01265/impl.digitBars", laid_loop_example_g01265_impl_digitBars)], narrowed := true }
def FnExactTimesLikeUptoSaid : Prop := fnExactTimesLikeUptoRow.holds Tryd.pinned (OpenSpec.upto fnExactTimesLikeSpec)

/-- 'laws.FnExactTimesOfBars', WHERE WHAT IT READS IS OF BULK AT MOST 1048576: true; the input reads as it did. -/
def fnExactTimesOfBarsUptoRow : OpenClaim := { program := "ytdlckhdalbagmabdoor", sum := "3b9f862f865a7d31e04e1316acd76e0f13fc868985e28d4ef8c1be83aecd22af", func := "loop.example/g01265/laws.FnExactTimesOfBars", spec := "fnExactTimesOfBars", inPlace := ["internal/bytealg.IndexByteString", "internal/bytealg.IndexString"], unfollowed := true, recurses := true, named := ["loop.example/g01265/impl.digitBars", "internal/bytealg.MaxLen"], apart := false, laid := [("loop.example/g01265/impl.digitBars", laid_loop_example_g01265_impl_digitBars)], narrowed := true }
def FnExactTimesOfBarsUptoSaid : Prop := fnExactTimesOfBarsUptoRow.holds Tryd.pinned (OpenSpec.upto fnExactTimesOfBarsSpec)

end Rows
end Go.Proofs.YtdlckhdalbagmabDoor
