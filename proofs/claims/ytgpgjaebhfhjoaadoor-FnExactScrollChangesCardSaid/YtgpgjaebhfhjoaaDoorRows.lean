/-
  NARROWER THAN 'FOR EVERY INPUT', by the rows' own cells (each row's printed sentence says how): FnExactIsWord: laid · FnExactLetterCell: laid · FnExactLetterOf: laid · FnExactRowOfWord: laid · FnExactWordOfRow: laid · FnExactWordLit: laid · FnExactMirroredWord: laid · FnExactWordChanges: laid · FnExactCountReadings: laid · FnExactReadingAt: laid · FnExactScrollRows: laid · FnExactScrollChanges: laid.
  DERIVED. THE GIVEN ROWS OF THIS SEAT. 12 by the template 'for every input the law returns true; each argument reads behind the call as it read before'; 0 by the template 'total and deterministic' (their statements: YtgpgjaebhfhjoaaDoorTotals.lean).
  GIVEN WITH THE SEED: the statements are not yours to turn. If you find one false, say at which input.
  Laid BY PROGRAM, IN A SANDBOX (cutbox-rows.mjs): the forced cells as the released guide's own fill.sh prints them over the translation ca9b4494b1bfcbdc… (all of the seat's roots in one cut). By AI agents, Wed Nov 11 2026. No macro, syntax, notation, axiom, sorry.
-/
import Derived.Test.YtgpgjaebhfhjoaaDoorChecked
import GoSem.Claim
import GoSem.ClaimJoined
import GoSem.ClaimMapViews
import Derived.JoinedTies
import Derived.KernelRfl
namespace Go.Proofs.YtgpgjaebhfhjoaaDoor
/- THE CELL 'sum', in the pinned program and in every row, IS THE sha256 OF THE DUMP (.gsa) THAT YtgpgjaebhfhjoaaDoorProg.lean LOADS. Nothing in Lean hashes anything: it is a label: what it is worth is what the hold of that sum in a sandbox is worth. -/
noncomputable def Tryd.pinned : Pinned := { name := "ytgpgjaebhfhjoaadoor", sum := "ca9b4494b1bfcbdc61218fead2a0ac5d1934600c7ec997738454a7e4f0fb28c2", checked := Tryd.checked }
namespace Rows
def none {H : Type} : Left H := { results := [], args := [] }

/- WHAT THE LISTED PACKAGE-LEVEL VARIABLES READ AS WHEN THE CALL BEGINS. Each datum BY PROGRAM (the guide's laid-datum.mjs) off the statement by which the dump's own 'gosem.cut.vars' lays the variable. In a bare row this is a premise. The card (YtgpgjaebhfhjoaaDoorCards.lean) ties it to the program's text. -/
def laid_loop_example_g01265_impl_letterBars {H : Type} : DataW H := .agg [.lit (.string [97, 98, 99, 101, 102, 103]), .lit (.string [99, 100, 101, 102, 103]), .lit (.string [97, 100, 101, 102]), .lit (.string [98, 99, 100, 101, 103]), .lit (.string [97, 100, 101, 102, 103]), .lit (.string [97, 101, 102, 103]), .lit (.string [99, 101, 102, 103]), .lit (.string [98, 99, 100, 101]), .lit (.string [100, 101, 102]), .lit (.string [99, 101, 103]), .lit (.string [99, 100, 101, 103]), .lit (.string [97, 98, 101, 102, 103]), .lit (.string [101, 103]), .lit (.string [100, 101, 102, 103]), .lit (.string [99, 100, 101]), .lit (.string [98, 99, 100, 102, 103])]

/-- 'laws.FnExactIsWord': WHATEVER THE INPUT: true; the input reads as it did. -/
def fnExactIsWordSpec : ChangeSpec := { name := "fnExactIsWord", vars := ["loop.example/g01265/impl.letterBars"], fn := fun _ => fun
  | [d, g1] => { results := [.lit (.bool true)], args := [d], vars := [g1] }
  | _ => none }
def fnExactIsWordRow : OpenClaim := { program := "ytgpgjaebhfhjoaadoor", sum := "ca9b4494b1bfcbdc61218fead2a0ac5d1934600c7ec997738454a7e4f0fb28c2", func := "loop.example/g01265/laws.FnExactIsWord", spec := "fnExactIsWord", inPlace := ["internal/bytealg.IndexByteString", "internal/bytealg.IndexString"], named := ["loop.example/g01265/impl.letterBars", "internal/bytealg.MaxLen"], apart := false, laid := [("loop.example/g01265/impl.letterBars", laid_loop_example_g01265_impl_letterBars)] }
def FnExactIsWordSaid : Prop := fnExactIsWordRow.holds Tryd.pinned (OpenSpec.ofChange fnExactIsWordSpec)

/-- ITS FALSE NEIGHBOUR: 'it returns false'. Refute it at one input. -/
def fnExactIsWordWrong : ChangeSpec := { name := "fnExactIsWord", vars := ["loop.example/g01265/impl.letterBars"], fn := fun _ => fun
  | [d, g1] => { results := [.lit (.bool false)], args := [d], vars := [g1] }
  | _ => none }
def FnExactIsWordWrongFalsely : Prop := fnExactIsWordRow.holds Tryd.pinned (OpenSpec.ofChange fnExactIsWordWrong)

/-- 'laws.FnExactLetterCell': WHATEVER THE INPUT: true; the input reads as it did. -/
def fnExactLetterCellSpec : ChangeSpec := { name := "fnExactLetterCell", vars := ["loop.example/g01265/impl.letterBars"], fn := fun _ => fun
  | [d, g1] => { results := [.lit (.bool true)], args := [d], vars := [g1] }
  | _ => none }
def fnExactLetterCellRow : OpenClaim := { program := "ytgpgjaebhfhjoaadoor", sum := "ca9b4494b1bfcbdc61218fead2a0ac5d1934600c7ec997738454a7e4f0fb28c2", func := "loop.example/g01265/laws.FnExactLetterCell", spec := "fnExactLetterCell", inPlace := ["internal/bytealg.IndexByteString", "internal/bytealg.IndexString"], named := ["loop.example/g01265/impl.letterBars", "internal/bytealg.MaxLen"], apart := false, laid := [("loop.example/g01265/impl.letterBars", laid_loop_example_g01265_impl_letterBars)] }
def FnExactLetterCellSaid : Prop := fnExactLetterCellRow.holds Tryd.pinned (OpenSpec.ofChange fnExactLetterCellSpec)

/-- ITS FALSE NEIGHBOUR: 'it returns false'. Refute it at one input. -/
def fnExactLetterCellWrong : ChangeSpec := { name := "fnExactLetterCell", vars := ["loop.example/g01265/impl.letterBars"], fn := fun _ => fun
  | [d, g1] => { results := [.lit (.bool false)], args := [d], vars := [g1] }
  | _ => none }
def FnExactLetterCellWrongFalsely : Prop := fnExactLetterCellRow.holds Tryd.pinned (OpenSpec.ofChange fnExactLetterCellWrong)

/-- 'laws.FnExactLetterOf': WHATEVER THE INPUT: true; the input reads as it did. -/
def fnExactLetterOfSpec : ChangeSpec := { name := "fnExactLetterOf", vars := ["loop.example/g01265/impl.letterBars"], fn := fun _ => fun
  | [d, g1] => { results := [.lit (.bool true)], args := [d], vars := [g1] }
  | _ => none }
def fnExactLetterOfRow : OpenClaim := { program := "ytgpgjaebhfhjoaadoor", sum := "ca9b4494b1bfcbdc61218fead2a0ac5d1934600c7ec997738454a7e4f0fb28c2", func := "loop.example/g01265/laws.FnExactLetterOf", spec := "fnExactLetterOf", inPlace := ["internal/bytealg.IndexByteString", "internal/bytealg.IndexString"], named := ["loop.example/g01265/impl.letterBars", "internal/bytealg.MaxLen"], apart := false, laid := [("loop.example/g01265/impl.letterBars", laid_loop_example_g01265_impl_letterBars)] }
def FnExactLetterOfSaid : Prop := fnExactLetterOfRow.holds Tryd.pinned (OpenSpec.ofChange fnExactLetterOfSpec)

/-- ITS FALSE NEIGHBOUR: 'it returns false'. Refute it at one input. -/
def fnExactLetterOfWrong : ChangeSpec := { name := "fnExactLetterOf", vars := ["loop.example/g01265/impl.letterBars"], fn := fun _ => fun
  | [d, g1] => { results := [.lit (.bool false)], args := [d], vars := [g1] }
  | _ => none }
def FnExactLetterOfWrongFalsely : Prop := fnExactLetterOfRow.holds Tryd.pinned (OpenSpec.ofChange fnExactLetterOfWrong)

/-- 'laws.FnExactRowOfWord': WHATEVER THE INPUT: true; the input reads as it did. -/
def fnExactRowOfWordSpec : ChangeSpec := { name := "fnExactRowOfWord", vars := ["loop.example/g01265/impl.letterBars"], fn := fun _ => fun
  | [d, g1] => { results := [.lit (.bool true)], args := [d], vars := [g1] }
  | _ => none }
def fnExactRowOfWordRow : OpenClaim := { program := "ytgpgjaebhfhjoaadoor", sum := "ca9b4494b1bfcbdc61218fead2a0ac5d1934600c7ec997738454a7e4f0fb28c2", func := "loop.example/g01265/laws.FnExactRowOfWord", spec := "fnExactRowOfWord", inPlace := ["internal/bytealg.IndexByteString", "internal/bytealg.IndexString"], named := ["loop.example/g01265/impl.letterBars", "internal/bytealg.MaxLen"], apart := false, laid := [("loop.example/g01265/impl.letterBars", laid_loop_example_g01265_impl_letterBars)] }
def FnExactRowOfWordSaid : Prop := fnExactRowOfWordRow.holds Tryd.pinned (OpenSpec.ofChange fnExactRowOfWordSpec)

/-- ITS FALSE NEIGHBOUR: 'it returns false'. Refute it at one input. -/
def fnExactRowOfWordWrong : ChangeSpec := { name := "fnExactRowOfWord", vars := ["loop.example/g01265/impl.letterBars"], fn := fun _ => fun
  | [d, g1] => { results := [.lit (.bool false)], args := [d], vars := [g1] }
  | _ => none }
def FnExactRowOfWordWrongFalsely : Prop := fnExactRowOfWordRow.holds Tryd.pinned (OpenSpec.ofChange fnExactRowOfWordWrong)

/-- 'laws.FnExactWordOfRow': WHATEVER THE INPUT: true; the input reads as it did. -/
def fnExactWordOfRowSpec : ChangeSpec := { name := "fnExactWordOfRow", vars := ["loop.example/g01265/impl.letterBars"], fn := fun _ => fun
  | [d, g1] => { results := [.lit (.bool true)], args := [d], vars := [g1] }
  | _ => none }
def fnExactWordOfRowRow : OpenClaim := { program := "ytgpgjaebhfhjoaadoor", sum := "ca9b4494b1bfcbdc61218fead2a0ac5d1934600c7ec997738454a7e4f0fb28c2", func := "loop.example/g01265/laws.FnExactWordOfRow", spec := "fnExactWordOfRow", inPlace := ["internal/bytealg.IndexByteString", "internal/bytealg.IndexString", "internal/abi.NoEscape"], unfollowed := true, recurses := true, named := ["loop.example/g01265/impl.letterBars", "internal/bytealg.MaxLen"], apart := false, laid := [("loop.example/g01265/impl.letterBars", laid_loop_example_g01265_impl_letterBars)] }
def FnExactWordOfRowSaid : Prop := fnExactWordOfRowRow.holds Tryd.pinned (OpenSpec.ofChange fnExactWordOfRowSpec)

/-- ITS FALSE NEIGHBOUR: 'it returns false'. Refute it at one input. -/
def fnExactWordOfRowWrong : ChangeSpec := { name := "fnExactWordOfRow", vars := ["loop.example/g01265/impl.letterBars"], fn := fun _ => fun
  | [d, g1] => { results := [.lit (.bool false)], args := [d], vars := [g1] }
  | _ => none }
def FnExactWordOfRowWrongFalsely : Prop := fnExactWordOfRowRow.holds Tryd.pinned (OpenSpec.ofChange fnExactWordOfRowWrong)

/-- 'laws.FnExactWordLit': WHATEVER THE INPUT: true; the input reads as it did. -/
def fnExactWordLitSpec : ChangeSpec := { name := "fnExactWordLit", vars := ["loop.example/g01265/impl.letterBars"], fn := fun _ => fun
  | [d, g1] => { results := [.lit (.bool true)], args := [d], vars := [g1] }
  | _ => none }
def fnExactWordLitRow : OpenClaim := { program := "ytgpgjaebhfhjoaadoor", sum := "ca9b4494b1bfcbdc61218fead2a0ac5d1934600c7ec997738454a7e4f0fb28c2", func := "loop.example/g01265/laws.FnExactWordLit", spec := "fnExactWordLit", inPlace := ["internal/bytealg.IndexByteString", "internal/bytealg.IndexString"], named := ["loop.example/g01265/impl.letterBars", "internal/bytealg.MaxLen"], apart := false, laid := [("loop.example/g01265/impl.letterBars", laid_loop_example_g01265_impl_letterBars)] }
def FnExactWordLitSaid : Prop := fnExactWordLitRow.holds Tryd.pinned (OpenSpec.ofChange fnExactWordLitSpec)

/-- ITS FALSE NEIGHBOUR: 'it returns false'. Refute it at one input. -/
def fnExactWordLitWrong : ChangeSpec := { name := "fnExactWordLit", vars := ["loop.example/g01265/impl.letterBars"], fn := fun _ => fun
  | [d, g1] => { results := [.lit (.bool false)], args := [d], vars := [g1] }
  | _ => none }
def FnExactWordLitWrongFalsely : Prop := fnExactWordLitRow.holds Tryd.pinned (OpenSpec.ofChange fnExactWordLitWrong)

/-- 'laws.FnExactMirroredWord': WHATEVER THE INPUT: true; the input reads as it did. -/
def fnExactMirroredWordSpec : ChangeSpec := { name := "fnExactMirroredWord", vars := ["loop.example/g01265/impl.letterBars"], fn := fun _ => fun
  | [d, g1] => { results := [.lit (.bool true)], args := [d], vars := [g1] }
  | _ => none }
def fnExactMirroredWordRow : OpenClaim := { program := "ytgpgjaebhfhjoaadoor", sum := "ca9b4494b1bfcbdc61218fead2a0ac5d1934600c7ec997738454a7e4f0fb28c2", func := "loop.example/g01265/laws.FnExactMirroredWord", spec := "fnExactMirroredWord", inPlace := ["internal/bytealg.IndexByteString", "internal/bytealg.IndexString", "internal/abi.NoEscape"], unfollowed := true, recurses := true, named := ["loop.example/g01265/impl.letterBars", "internal/bytealg.MaxLen"], apart := false, laid := [("loop.example/g01265/impl.letterBars", laid_loop_example_g01265_impl_letterBars)] }
def FnExactMirroredWordSaid : Prop := fnExactMirroredWordRow.holds Tryd.pinned (OpenSpec.ofChange fnExactMirroredWordSpec)

/-- ITS FALSE NEIGHBOUR: 'it returns false'. Refute it at one input. -/
def fnExactMirroredWordWrong : ChangeSpec := { name := "fnExactMirroredWord", vars := ["loop.example/g01265/impl.letterBars"], fn := fun _ => fun
  | [d, g1] => { results := [.lit (.bool false)], args := [d], vars := [g1] }
  | _ => none }
def FnExactMirroredWordWrongFalsely : Prop := fnExactMirroredWordRow.holds Tryd.pinned (OpenSpec.ofChange fnExactMirroredWordWrong)

/-- 'laws.FnExactWordChanges': WHATEVER THE INPUT: true; the input reads as it did. -/
def fnExactWordChangesSpec : ChangeSpec := { name := "fnExactWordChanges", vars := ["loop.example/g01265/impl.letterBars"], fn := fun _ => fun
  | [d1, d2, g1] => { results := [.lit (.bool true)], args := [d1, d2], vars := [g1] }
  | _ => none }
def fnExactWordChangesRow : OpenClaim := { program := "ytgpgjaebhfhjoaadoor", sum := "ca9b4494b1bfcbdc61218fead2a0ac5d1934600c7ec997738454a7e4f0fb28c2", func := "loop.example/g01265/laws.FnExactWordChanges", spec := "fnExactWordChanges", inPlace := ["internal/bytealg.IndexByteString", "internal/bytealg.IndexString"], named := ["loop.example/g01265/impl.letterBars", "internal/bytealg.MaxLen"], apart := false, laid := [("loop.example/g01265/impl.letterBars", laid_loop_example_g01265_impl_letterBars)] }
def FnExactWordChangesSaid : Prop := fnExactWordChangesRow.holds Tryd.pinned (OpenSpec.ofChange fnExactWordChangesSpec)

/-- ITS FALSE NEIGHBOUR: 'it returns false'. Refute it at one input. -/
def fnExactWordChangesWrong : ChangeSpec := { name := "fnExactWordChanges", vars := ["loop.example/g01265/impl.letterBars"], fn := fun _ => fun
  | [d1, d2, g1] => { results := [.lit (.bool false)], args := [d1, d2], vars := [g1] }
  | _ => none }
def FnExactWordChangesWrongFalsely : Prop := fnExactWordChangesRow.holds Tryd.pinned (OpenSpec.ofChange fnExactWordChangesWrong)

/-- 'laws.FnExactCountReadings': WHATEVER THE INPUT: true; the input reads as it did. -/
def fnExactCountReadingsSpec : ChangeSpec := { name := "fnExactCountReadings", vars := ["loop.example/g01265/impl.letterBars"], fn := fun _ => fun
  | [d, g1] => { results := [.lit (.bool true)], args := [d], vars := [g1] }
  | _ => none }
def fnExactCountReadingsRow : OpenClaim := { program := "ytgpgjaebhfhjoaadoor", sum := "ca9b4494b1bfcbdc61218fead2a0ac5d1934600c7ec997738454a7e4f0fb28c2", func := "loop.example/g01265/laws.FnExactCountReadings", spec := "fnExactCountReadings", inPlace := ["internal/bytealg.IndexByteString", "internal/bytealg.IndexString"], unfollowed := true, recurses := true, named := ["loop.example/g01265/impl.letterBars", "internal/bytealg.MaxLen"], apart := false, laid := [("loop.example/g01265/impl.letterBars", laid_loop_example_g01265_impl_letterBars)] }
def FnExactCountReadingsSaid : Prop := fnExactCountReadingsRow.holds Tryd.pinned (OpenSpec.ofChange fnExactCountReadingsSpec)

/-- ITS FALSE NEIGHBOUR: 'it returns false'. Refute it at one input. -/
def fnExactCountReadingsWrong : ChangeSpec := { name := "fnExactCountReadings", vars := ["loop.example/g01265/impl.letterBars"], fn := fun _ => fun
  | [d, g1] => { results := [.lit (.bool false)], args := [d], vars := [g1] }
  | _ => none }
def FnExactCountReadingsWrongFalsely : Prop := fnExactCountReadingsRow.holds Tryd.pinned (OpenSpec.ofChange fnExactCountReadingsWrong)

/-- 'laws.FnExactReadingAt': WHATEVER THE INPUT: true; the input reads as it did. -/
def fnExactReadingAtSpec : ChangeSpec := { name := "fnExactReadingAt", vars := ["loop.example/g01265/impl.letterBars"], fn := fun _ => fun
  | [d1, d2, g1] => { results := [.lit (.bool true)], args := [d1, d2], vars := [g1] }
  | _ => none }
def fnExactReadingAtRow : OpenClaim := { program := "ytgpgjaebhfhjoaadoor", sum := "ca9b4494b1bfcbdc61218fead2a0ac5d1934600c7ec997738454a7e4f0fb28c2", func := "loop.example/g01265/laws.FnExactReadingAt", spec := "fnExactReadingAt", inPlace := ["internal/bytealg.IndexByteString", "internal/bytealg.IndexString"], unfollowed := true, recurses := true, named := ["loop.example/g01265/impl.letterBars", "internal/bytealg.MaxLen"], apart := false, laid := [("loop.example/g01265/impl.letterBars", laid_loop_example_g01265_impl_letterBars)] }
def FnExactReadingAtSaid : Prop := fnExactReadingAtRow.holds Tryd.pinned (OpenSpec.ofChange fnExactReadingAtSpec)

/-- ITS FALSE NEIGHBOUR: 'it returns false'. Refute it at one input. -/
def fnExactReadingAtWrong : ChangeSpec := { name := "fnExactReadingAt", vars := ["loop.example/g01265/impl.letterBars"], fn := fun _ => fun
  | [d1, d2, g1] => { results := [.lit (.bool false)], args := [d1, d2], vars := [g1] }
  | _ => none }
def FnExactReadingAtWrongFalsely : Prop := fnExactReadingAtRow.holds Tryd.pinned (OpenSpec.ofChange fnExactReadingAtWrong)

/-- 'laws.FnExactScrollRows': WHATEVER THE INPUT: true; the input reads as it did. -/
def fnExactScrollRowsSpec : ChangeSpec := { name := "fnExactScrollRows", vars := ["loop.example/g01265/impl.letterBars"], fn := fun _ => fun
  | [d1, d2, g1] => { results := [.lit (.bool true)], args := [d1, d2], vars := [g1] }
  | _ => none }
def fnExactScrollRowsRow : OpenClaim := { program := "ytgpgjaebhfhjoaadoor", sum := "ca9b4494b1bfcbdc61218fead2a0ac5d1934600c7ec997738454a7e4f0fb28c2", func := "loop.example/g01265/laws.FnExactScrollRows", spec := "fnExactScrollRows", inPlace := ["internal/bytealg.IndexByteString", "internal/bytealg.IndexString"], named := ["loop.example/g01265/impl.letterBars", "internal/bytealg.MaxLen"], apart := false, laid := [("loop.example/g01265/impl.letterBars", laid_loop_example_g01265_impl_letterBars)] }
def FnExactScrollRowsSaid : Prop := fnExactScrollRowsRow.holds Tryd.pinned (OpenSpec.ofChange fnExactScrollRowsSpec)

/-- ITS FALSE NEIGHBOUR: 'it returns false'. Refute it at one input. -/
def fnExactScrollRowsWrong : ChangeSpec := { name := "fnExactScrollRows", vars := ["loop.example/g01265/impl.letterBars"], fn := fun _ => fun
  | [d1, d2, g1] => { results := [.lit (.bool false)], args := [d1, d2], vars := [g1] }
  | _ => none }
def FnExactScrollRowsWrongFalsely : Prop := fnExactScrollRowsRow.holds Tryd.pinned (OpenSpec.ofChange fnExactScrollRowsWrong)

/-- 'laws.FnExactScrollChanges': WHATEVER THE INPUT: true; the input reads as it did. -/
def fnExactScrollChangesSpec : ChangeSpec := { name := "fnExactScrollChanges", vars := ["loop.example/g01265/impl.letterBars"], fn := fun _ => fun
  | [d1, d2, g1] => { results := [.lit (.bool true)], args := [d1, d2], vars := [g1] }
  | _ => none }
def fnExactScrollChangesRow : OpenClaim := { program := "ytgpgjaebhfhjoaadoor", sum := "ca9b4494b1bfcbdc61218fead2a0ac5d1934600c7ec997738454a7e4f0fb28c2", func := "loop.example/g01265/laws.FnExactScrollChanges", spec := "fnExactScrollChanges", inPlace := ["internal/bytealg.IndexByteString", "internal/bytealg.IndexString"], named := ["loop.example/g01265/impl.letterBars", "internal/bytealg.MaxLen"], apart := false, laid := [("loop.example/g01265/impl.letterBars", laid_loop_example_g01265_impl_letterBars)] }
def FnExactScrollChangesSaid : Prop := fnExactScrollChangesRow.holds Tryd.pinned (OpenSpec.ofChange fnExactScrollChangesSpec)

/-- ITS FALSE NEIGHBOUR: 'it returns false'. Refute it at one input. -/
def fnExactScrollChangesWrong : ChangeSpec := { name := "fnExactScrollChanges", vars := ["loop.example/g01265/impl.letterBars"], fn := fun _ => fun
  | [d1, d2, g1] => { results := [.lit (.bool false)], args := [d1, d2], vars := [g1] }
  | _ => none }
def FnExactScrollChangesWrongFalsely : Prop := fnExactScrollChangesRow.holds Tryd.pinned (OpenSpec.ofChange fnExactScrollChangesWrong)

/- THE SECOND FORM. 'bulk': how many values and letters a reading holds, each counted each time it is reached (what is shared counts as often as it is met; a slice's spare places count too). A statement '..UptoSaid' is the law's where the arguments, and the package variables that the reading takes, are together of bulk at most 1048576: NARROWER than '..Said'. Prove '..Said' where nothing that the law and all that it calls make is longer than what came in: it says more and counts as full. Else prove '..UptoSaid'. A law counts once. -/
mutual
def uptoBulk {H : Type} : DataW H → Nat
  | .lit (.string bytes) => bytes.length + 1
  | .lit _ => 1
  | .nil => 1
  | .ptr d => uptoBulk d + 1
  | .slice elems spare => uptoBulkAll elems + uptoBulkAll spare + 1
  | .agg parts => uptoBulkAll parts + 1
  | .iface _ d => uptoBulk d + 1
  | .map entries => uptoBulkEntries entries + 1
  | .held _ => 1
def uptoBulkAll {H : Type} : List (DataW H) → Nat
  | [] => 0
  | d :: r => uptoBulk d + uptoBulkAll r
def uptoBulkEntries {H : Type} : List (Lit × DataW H) → Nat
  | [] => 0
  | x :: r => uptoBulkEntry x + uptoBulkEntries r
def uptoBulkEntry {H : Type} : Lit × DataW H → Nat
  | (.string bytes, d) => bytes.length + uptoBulk d + 1
  | (_, d) => uptoBulk d + 1
 end
def uptoSmall : (H : Type) → List (DataW H) → Bool := fun _ ds => decide (uptoBulkAll ds ≤ 1048576)
def OpenSpec.upto (s : _root_.Go.ChangeSpec) : _root_.Go.OpenSpec := { _root_.Go.OpenSpec.ofChange s with cond := some uptoSmall }

/-- 'laws.FnExactIsWord', WHERE WHAT IT READS IS OF BULK AT MOST 1048576: true; the input reads as it did. -/
def fnExactIsWordUptoRow : OpenClaim := { program := "ytgpgjaebhfhjoaadoor", sum := "ca9b4494b1bfcbdc61218fead2a0ac5d1934600c7ec997738454a7e4f0fb28c2", func := "loop.example/g01265/laws.FnExactIsWord", spec := "fnExactIsWord", inPlace := ["internal/bytealg.IndexByteString", "internal/bytealg.IndexString"], named := ["loop.example/g01265/impl.letterBars", "internal/bytealg.MaxLen"], apart := false, laid := [("loop.example/g01265/impl.letterBars", laid_loop_example_g01265_impl_letterBars)], narrowed := true }
def FnExactIsWordUptoSaid : Prop := fnExactIsWordUptoRow.holds Tryd.pinned (OpenSpec.upto fnExactIsWordSpec)

/-- 'laws.FnExactLetterCell', WHERE WHAT IT READS IS OF BULK AT MOST 1048576: true; the input reads as it did. -/
def fnExactLetterCellUptoRow : OpenClaim := { program := "ytgpgjaebhfhjoaadoor", sum := "ca9b4494b1bfcbdc61218fead2a0ac5d1934600c7ec997738454a7e4f0fb28c2", func := "loop.example/g01265/laws.FnExactLetterCell", spec := "fnExactLetterCell", inPlace := ["internal/bytealg.IndexByteString", "internal/bytealg.IndexString"], named := ["loop.example/g01265/impl.letterBars", "internal/bytealg.MaxLen"], apart := false, laid := [("loop.example/g01265/impl.letterBars", laid_loop_example_g01265_impl_letterBars)], narrowed := true }
def FnExactLetterCellUptoSaid : Prop := fnExactLetterCellUptoRow.holds Tryd.pinned (OpenSpec.upto fnExactLetterCellSpec)

/-- 'laws.FnExactLetterOf', WHERE WHAT IT READS IS OF BULK AT MOST 1048576: true; the input reads as it did. -/
def fnExactLetterOfUptoRow : OpenClaim := { program := "ytgpgjaebhfhjoaadoor", sum := "ca9b4494b1bfcbdc61218fead2a0ac5d1934600c7ec997738454a7e4f0fb28c2", func := "loop.example/g01265/laws.FnExactLetterOf", spec := "fnExactLetterOf", inPlace := ["internal/bytealg.IndexByteString", "internal/bytealg.IndexString"], named := ["loop.example/g01265/impl.letterBars", "internal/bytealg.MaxLen"], apart := false, laid := [("loop.example/g01265/impl.letterBars", laid_loop_example_g01265_impl_letterBars)], narrowed := true }
def FnExactLetterOfUptoSaid : Prop := fnExactLetterOfUptoRow.holds Tryd.pinned (OpenSpec.upto fnExactLetterOfSpec)

/-- 'laws.FnExactRowOfWord', WHERE WHAT IT READS IS OF BULK AT MOST 1048576: true; the input reads as it did. -/
def fnExactRowOfWordUptoRow : OpenClaim := { program := "ytgpgjaebhfhjoaadoor", sum := "ca9b4494b1bfcbdc61218fead2a0ac5d1934600c7ec997738454a7e4f0fb28c2", func := "loop.example/g01265/laws.FnExactRowOfWord", spec := "fnExactRowOfWord", inPlace := ["internal/bytealg.IndexByteString", "internal/bytealg.IndexString"], named := ["loop.example/g01265/impl.letterBars", "internal/bytealg.MaxLen"], apart := false, laid := [("loop.example/g01265/impl.letterBars", laid_loop_example_g01265_impl_letterBars)], narrowed := true }
def FnExactRowOfWordUptoSaid : Prop := fnExactRowOfWordUptoRow.holds Tryd.pinned (OpenSpec.upto fnExactRowOfWordSpec)

/-- 'laws.FnExactWordOfRow', WHERE WHAT IT READS IS OF BULK AT MOST 1048576: true; the input reads as it did. -/
def fnExactWordOfRowUptoRow : OpenClaim := { program := "ytgpgjaebhfhjoaadoor", sum := "ca9b4494b1bfcbdc61218fead2a0ac5d1934600c7ec997738454a7e4f0fb28c2", func := "loop.example/g01265/laws.FnExactWordOfRow", spec := "fnExactWordOfRow", inPlace := ["internal/bytealg.IndexByteString", "internal/bytealg.IndexString", "internal/abi.NoEscape"], unfollowed := true, recurses := true, named := ["loop.example/g01265/impl.letterBars", "internal/bytealg.MaxLen"], apart := false, laid := [("loop.example/g01265/impl.letterBars", laid_loop_example_g01265_impl_letterBars)], narrowed := true }
def FnExactWordOfRowUptoSaid : Prop := fnExactWordOfRowUptoRow.holds Tryd.pinned (OpenSpec.upto fnExactWordOfRowSpec)

/-- 'laws.FnExactWordLit', WHERE WHAT IT READS IS OF BULK AT MOST 1048576: true; the input reads as it did. -/
def fnExactWordLitUptoRow : OpenClaim := { program := "ytgpgjaebhfhjoaadoor", sum := "ca9b4494b1bfcbdc61218fead2a0ac5d1934600c7ec997738454a7e4f0fb28c2", func := "loop.example/g01265/laws.FnExactWordLit", spec := "fnExactWordLit", inPlace := ["internal/bytealg.IndexByteString", "internal/bytealg.IndexString"], named := ["loop.example/g01265/impl.letterBars", "internal/bytealg.MaxLen"], apart := false, laid := [("loop.example/g01265/impl.letterBars", laid_loop_example_g01265_impl_letterBars)], narrowed := true }
def FnExactWordLitUptoSaid : Prop := fnExactWordLitUptoRow.holds Tryd.pinned (OpenSpec.upto fnExactWordLitSpec)

/-- 'laws.FnExactMirroredWord', WHERE WHAT IT READS IS OF BULK AT MOST 1048576: true; the input reads as it did. -/
def fnExactMirroredWordUptoRow : OpenClaim := { program := "ytgpgjaebhfhjoaadoor", sum := "ca9b4494b1bfcbdc61218fead2a0ac5d1934600c7ec997738454a7e4f0fb28c2", func := "loop.example/g01265/laws.FnExactMirroredWord", spec := "fnExactMirroredWord", inPlace := ["internal/bytealg.IndexByteString", "internal/bytealg.IndexString", "internal/abi.NoEscape"], unfollowed := true, recurses := true, named := ["loop.example/g01265/impl.letterBars", "internal/bytealg.MaxLen"], apart := false, laid := [("loop.example/g01265/impl.letterBars", laid_loop_example_g01265_impl_letterBars)], narrowed := true }
def FnExactMirroredWordUptoSaid : Prop := fnExactMirroredWordUptoRow.holds Tryd.pinned (OpenSpec.upto fnExactMirroredWordSpec)

/-- 'laws.FnExactWordChanges', WHERE WHAT IT READS IS OF BULK AT MOST 1048576: true; the input reads as it did. -/
def fnExactWordChangesUptoRow : OpenClaim := { program := "ytgpgjaebhfhjoaadoor", sum := "ca9b4494b1bfcbdc61218fead2a0ac5d1934600c7ec997738454a7e4f0fb28c2", func := "loop.example/g01265/laws.FnExactWordChanges", spec := "fnExactWordChanges", inPlace := ["internal/bytealg.IndexByteString", "internal/bytealg.IndexString"], named := ["loop.example/g01265/impl.letterBars", "internal/bytealg.MaxLen"], apart := false, laid := [("loop.example/g01265/impl.letterBars", laid_loop_example_g01265_impl_letterBars)], narrowed := true }
def FnExactWordChangesUptoSaid : Prop := fnExactWordChangesUptoRow.holds Tryd.pinned (OpenSpec.upto fnExactWordChangesSpec)

/-- 'laws.FnExactCountReadings', WHERE WHAT IT READS IS OF BULK AT MOST 1048576: true; the input reads as it did. -/
def fnExactCountReadingsUptoRow : OpenClaim := { program := "ytgpgjaebhfhjoaadoor", sum := "ca9b4494b1bfcbdc61218fead2a0ac5d1934600c7ec997738454a7e4f0fb28c2", func := "loop.example/g01265/laws.FnExactCountReadings", spec := "fnExactCountReadings", inPlace := ["internal/bytealg.IndexByteString", "internal/bytealg.IndexString"], unfollowed := true, recurses := true, named := ["loop.example/g01265/impl.letterBars", "internal/bytealg.MaxLen"], apart := false, laid := [("loop.example/g01265/impl.letterBars", laid_loop_example_g01265_impl_letterBars)], narrowed := true }
def FnExactCountReadingsUptoSaid : Prop := fnExactCountReadingsUptoRow.holds Tryd.pinned (OpenSpec.upto fnExactCountReadingsSpec)

/-- 'laws.FnExactReadingAt', WHERE WHAT IT READS IS OF BULK AT MOST 1048576: true; the input reads as it did. -/
def fnExactReadingAtUptoRow : OpenClaim := { program := "ytgpgjaebhfhjoaadoor", sum := "ca9b4494b1bfcbdc61218fead2a0ac5d1934600c7ec997738454a7e4f0fb28c2", func := "loop.example/g01265/laws.FnExactReadingAt", spec := "fnExactReadingAt", inPlace := ["internal/bytealg.IndexByteString", "internal/bytealg.IndexString"], unfollowed := true, recurses := true, named := ["loop.example/g01265/impl.letterBars", "internal/bytealg.MaxLen"], apart := false, laid := [("loop.example/g01265/impl.letterBars", laid_loop_example_g01265_impl_letterBars)], narrowed := true }
def FnExactReadingAtUptoSaid : Prop := fnExactReadingAtUptoRow.holds Tryd.pinned (OpenSpec.upto fnExactReadingAtSpec)

/-- 'laws.FnExactScrollRows', WHERE WHAT IT READS IS OF BULK AT MOST 1048576: true; the input reads as it did. -/
def fnExactScrollRowsUptoRow : OpenClaim := { program := "ytgpgjaebhfhjoaadoor", sum := "ca9b4494b1bfcbdc61218fead2a0ac5d1934600c7ec997738454a7e4f0fb28c2", func := "loop.example/g01265/laws.FnExactScrollRows", spec := "fnExactScrollRows", inPlace := ["internal/bytealg.IndexByteString", "internal/bytealg.IndexString"], named := ["loop.example/g01265/impl.letterBars", "internal/bytealg.MaxLen"], apart := false, laid := [("loop.example/g01265/impl.letterBars", laid_loop_example_g01265_impl_letterBars)], narrowed := true }
def FnExactScrollRowsUptoSaid : Prop := fnExactScrollRowsUptoRow.holds Tryd.pinned (OpenSpec.upto fnExactScrollRowsSpec)

/-- 'laws.FnExactScrollChanges', WHERE WHAT IT READS IS OF BULK AT MOST 1048576: true; the input reads as it did. -/
def fnExactScrollChangesUptoRow : OpenClaim := { program := "ytgpgjaebhfhjoaadoor", sum := "ca9b4494b1bfcbdc61218fead2a0ac5d1934600c7ec997738454a7e4f0fb28c2", func := "loop.example/g01265/laws.FnExactScrollChanges", spec := "fnExactScrollChanges", inPlace := ["internal/bytealg.IndexByteString", "internal/bytealg.IndexString"], named := ["loop.example/g01265/impl.letterBars", "internal/bytealg.MaxLen"], apart := false, laid := [("loop.example/g01265/impl.letterBars", laid_loop_example_g01265_impl_letterBars)], narrowed := true }
def FnExactScrollChangesUptoSaid : Prop := fnExactScrollChangesUptoRow.holds Tryd.pinned (OpenSpec.upto fnExactScrollChangesSpec)

end Rows
end Go.Proofs.YtgpgjaebhfhjoaaDoor
