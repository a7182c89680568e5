/-
  NARROWER THAN 'FOR EVERY INPUT', by the rows' own cells (each row's printed sentence says how): FnExactLeastFarLetters: laid · FnExactWordOfNumber: laid · FnExactNumberOfWord: laid · FnReadings: laid.
  DERIVED. THE GIVEN ROWS OF THIS SEAT. 4 by the template 'for every input the law returns true; each argument reads behind the call as it read before'; 0 by the template 'total and deterministic' (their statements: YtgpgjaebhfhjoabDoorTotals.lean).
  GIVEN WITH THE SEED: the statements are not yours to turn. If you find one false, say at which input.
  Laid BY PROGRAM, IN A SANDBOX (cutbox-rows.mjs): the forced cells as the released guide's own fill.sh prints them over the translation 53277280d71dc39d… (all of the seat's roots in one cut). By AI agents, Wed Nov 11 2026. No macro, syntax, notation, axiom, sorry.
-/
import Derived.Test.YtgpgjaebhfhjoabDoorChecked
import GoSem.Claim
import GoSem.ClaimJoined
import GoSem.ClaimMapViews
import Derived.JoinedTies
import Derived.KernelRfl
namespace Go.Proofs.YtgpgjaebhfhjoabDoor
/- THE CELL 'sum', in the pinned program and in every row, IS THE sha256 OF THE DUMP (.gsa) THAT YtgpgjaebhfhjoabDoorProg.lean LOADS. Nothing in Lean hashes anything: it is a label: what it is worth is what the hold of that sum in a sandbox is worth. -/
noncomputable def Tryd.pinned : Pinned := { name := "ytgpgjaebhfhjoabdoor", sum := "53277280d71dc39d838cdf3adf6e7adf0c5a876190c532bc24f991e340983aa7", checked := Tryd.checked }
namespace Rows
def none {H : Type} : Left H := { results := [], args := [] }

/- WHAT THE LISTED PACKAGE-LEVEL VARIABLES READ AS WHEN THE CALL BEGINS. Each datum BY PROGRAM (the guide's laid-datum.mjs) off the statement by which the dump's own 'gosem.cut.vars' lays the variable. In a bare row this is a premise. The card (YtgpgjaebhfhjoabDoorCards.lean) ties it to the program's text. -/
def laid_loop_example_g01265_impl_letterBars {H : Type} : DataW H := .agg [.lit (.string [97, 98, 99, 101, 102, 103]), .lit (.string [99, 100, 101, 102, 103]), .lit (.string [97, 100, 101, 102]), .lit (.string [98, 99, 100, 101, 103]), .lit (.string [97, 100, 101, 102, 103]), .lit (.string [97, 101, 102, 103]), .lit (.string [99, 101, 102, 103]), .lit (.string [98, 99, 100, 101]), .lit (.string [100, 101, 102]), .lit (.string [99, 101, 103]), .lit (.string [99, 100, 101, 103]), .lit (.string [97, 98, 101, 102, 103]), .lit (.string [101, 103]), .lit (.string [100, 101, 102, 103]), .lit (.string [99, 100, 101]), .lit (.string [98, 99, 100, 102, 103])]
def laid_math_bits_deBruijn32tab {H : Type} : DataW H := .agg [.lit (.int .u8 0), .lit (.int .u8 1), .lit (.int .u8 28), .lit (.int .u8 2), .lit (.int .u8 29), .lit (.int .u8 14), .lit (.int .u8 24), .lit (.int .u8 3), .lit (.int .u8 30), .lit (.int .u8 22), .lit (.int .u8 20), .lit (.int .u8 15), .lit (.int .u8 25), .lit (.int .u8 17), .lit (.int .u8 4), .lit (.int .u8 8), .lit (.int .u8 31), .lit (.int .u8 27), .lit (.int .u8 13), .lit (.int .u8 23), .lit (.int .u8 21), .lit (.int .u8 19), .lit (.int .u8 16), .lit (.int .u8 7), .lit (.int .u8 26), .lit (.int .u8 12), .lit (.int .u8 18), .lit (.int .u8 6), .lit (.int .u8 11), .lit (.int .u8 5), .lit (.int .u8 10), .lit (.int .u8 9)]
def laid_math_bits_deBruijn64tab {H : Type} : DataW H := .agg [.lit (.int .u8 0), .lit (.int .u8 1), .lit (.int .u8 56), .lit (.int .u8 2), .lit (.int .u8 57), .lit (.int .u8 49), .lit (.int .u8 28), .lit (.int .u8 3), .lit (.int .u8 61), .lit (.int .u8 58), .lit (.int .u8 42), .lit (.int .u8 50), .lit (.int .u8 38), .lit (.int .u8 29), .lit (.int .u8 17), .lit (.int .u8 4), .lit (.int .u8 62), .lit (.int .u8 47), .lit (.int .u8 59), .lit (.int .u8 36), .lit (.int .u8 45), .lit (.int .u8 43), .lit (.int .u8 51), .lit (.int .u8 22), .lit (.int .u8 53), .lit (.int .u8 39), .lit (.int .u8 33), .lit (.int .u8 30), .lit (.int .u8 24), .lit (.int .u8 18), .lit (.int .u8 12), .lit (.int .u8 5), .lit (.int .u8 63), .lit (.int .u8 55), .lit (.int .u8 48), .lit (.int .u8 27), .lit (.int .u8 60), .lit (.int .u8 41), .lit (.int .u8 37), .lit (.int .u8 16), .lit (.int .u8 46), .lit (.int .u8 35), .lit (.int .u8 44), .lit (.int .u8 21), .lit (.int .u8 52), .lit (.int .u8 32), .lit (.int .u8 23), .lit (.int .u8 11), .lit (.int .u8 54), .lit (.int .u8 26), .lit (.int .u8 40), .lit (.int .u8 15), .lit (.int .u8 34), .lit (.int .u8 20), .lit (.int .u8 31), .lit (.int .u8 10), .lit (.int .u8 25), .lit (.int .u8 14), .lit (.int .u8 19), .lit (.int .u8 9), .lit (.int .u8 13), .lit (.int .u8 8), .lit (.int .u8 7), .lit (.int .u8 6)]
def laid_internal_strconv_uint64pow10 {H : Type} : DataW H := .agg [.lit (.int .u64 1), .lit (.int .u64 10), .lit (.int .u64 100), .lit (.int .u64 1000), .lit (.int .u64 10000), .lit (.int .u64 100000), .lit (.int .u64 1000000), .lit (.int .u64 10000000), .lit (.int .u64 100000000), .lit (.int .u64 1000000000), .lit (.int .u64 10000000000), .lit (.int .u64 100000000000), .lit (.int .u64 1000000000000), .lit (.int .u64 10000000000000), .lit (.int .u64 100000000000000), .lit (.int .u64 1000000000000000), .lit (.int .u64 10000000000000000), .lit (.int .u64 100000000000000000), .lit (.int .u64 1000000000000000000), .lit (.int .u64 10000000000000000000)]
def laid_loop_example_g01265_impl_digitBars {H : Type} : DataW H := .agg [.lit (.string [97, 98, 99, 100, 101, 102]), .lit (.string [98, 99]), .lit (.string [97, 98, 100, 101, 103]), .lit (.string [97, 98, 99, 100, 103]), .lit (.string [98, 99, 102, 103]), .lit (.string [97, 99, 100, 102, 103]), .lit (.string [97, 99, 100, 101, 102, 103]), .lit (.string [97, 98, 99]), .lit (.string [97, 98, 99, 100, 101, 102, 103]), .lit (.string [97, 98, 99, 100, 102, 103])]

/-- 'laws.FnExactLeastFarLetters': WHATEVER THE INPUT: true; the input reads as it did. -/
def fnExactLeastFarLettersSpec : ChangeSpec := { name := "fnExactLeastFarLetters", vars := ["loop.example/g01265/impl.letterBars"], fn := fun _ => fun
  | [g1] => { results := [.lit (.bool true)], args := [], vars := [g1] }
  | _ => none }
def fnExactLeastFarLettersRow : OpenClaim := { program := "ytgpgjaebhfhjoabdoor", sum := "53277280d71dc39d838cdf3adf6e7adf0c5a876190c532bc24f991e340983aa7", func := "loop.example/g01265/laws.FnExactLeastFarLetters", spec := "fnExactLeastFarLetters", inPlace := ["internal/bytealg.IndexByteString", "internal/bytealg.IndexString"], named := ["loop.example/g01265/impl.letterBars", "internal/bytealg.MaxLen"], apart := false, laid := [("loop.example/g01265/impl.letterBars", laid_loop_example_g01265_impl_letterBars)] }
def FnExactLeastFarLettersSaid : Prop := fnExactLeastFarLettersRow.holds Tryd.pinned (OpenSpec.ofChange fnExactLeastFarLettersSpec)

/-- ITS FALSE NEIGHBOUR: 'it returns false'. Refute it at one input. -/
def fnExactLeastFarLettersWrong : ChangeSpec := { name := "fnExactLeastFarLetters", vars := ["loop.example/g01265/impl.letterBars"], fn := fun _ => fun
  | [g1] => { results := [.lit (.bool false)], args := [], vars := [g1] }
  | _ => none }
def FnExactLeastFarLettersWrongFalsely : Prop := fnExactLeastFarLettersRow.holds Tryd.pinned (OpenSpec.ofChange fnExactLeastFarLettersWrong)

/-- 'laws.FnExactWordOfNumber': WHATEVER THE INPUT: true; the input reads as it did. -/
def fnExactWordOfNumberSpec : ChangeSpec := { name := "fnExactWordOfNumber", vars := ["loop.example/g01265/impl.digitBars", "loop.example/g01265/impl.letterBars"], fn := fun _ => fun
  | [d, g1, g2] => { results := [.lit (.bool true)], args := [d], vars := [g1, g2] }
  | _ => none }
def fnExactWordOfNumberRow : OpenClaim := { program := "ytgpgjaebhfhjoabdoor", sum := "53277280d71dc39d838cdf3adf6e7adf0c5a876190c532bc24f991e340983aa7", func := "loop.example/g01265/laws.FnExactWordOfNumber", spec := "fnExactWordOfNumber", inPlace := ["internal/bytealg.IndexByteString", "internal/bytealg.IndexString", "internal/abi.NoEscape"], unfollowed := true, recurses := true, named := ["internal/strconv.uint64pow10", "math/bits.deBruijn32tab", "math/bits.deBruijn64tab", "loop.example/g01265/impl.digitBars", "loop.example/g01265/impl.letterBars", "internal/bytealg.MaxLen"], apart := false, laid := [("math/bits.deBruijn32tab", laid_math_bits_deBruijn32tab), ("math/bits.deBruijn64tab", laid_math_bits_deBruijn64tab), ("internal/strconv.uint64pow10", laid_internal_strconv_uint64pow10), ("loop.example/g01265/impl.letterBars", laid_loop_example_g01265_impl_letterBars), ("loop.example/g01265/impl.digitBars", laid_loop_example_g01265_impl_digitBars)] }
def FnExactWordOfNumberSaid : Prop := fnExactWordOfNumberRow.holds Tryd.pinned (OpenSpec.ofChange fnExactWordOfNumberSpec)

/-- ITS FALSE NEIGHBOUR: 'it returns false'. Refute it at one input. -/
def fnExactWordOfNumberWrong : ChangeSpec := { name := "fnExactWordOfNumber", vars := ["loop.example/g01265/impl.digitBars", "loop.example/g01265/impl.letterBars"], fn := fun _ => fun
  | [d, g1, g2] => { results := [.lit (.bool false)], args := [d], vars := [g1, g2] }
  | _ => none }
def FnExactWordOfNumberWrongFalsely : Prop := fnExactWordOfNumberRow.holds Tryd.pinned (OpenSpec.ofChange fnExactWordOfNumberWrong)

/-- 'laws.FnExactNumberOfWord': WHATEVER THE INPUT: true; the input reads as it did. -/
def fnExactNumberOfWordSpec : ChangeSpec := { name := "fnExactNumberOfWord", vars := ["loop.example/g01265/impl.letterBars", "loop.example/g01265/impl.digitBars"], fn := fun _ => fun
  | [d, g1, g2] => { results := [.lit (.bool true)], args := [d], vars := [g1, g2] }
  | _ => none }
def fnExactNumberOfWordRow : OpenClaim := { program := "ytgpgjaebhfhjoabdoor", sum := "53277280d71dc39d838cdf3adf6e7adf0c5a876190c532bc24f991e340983aa7", func := "loop.example/g01265/laws.FnExactNumberOfWord", spec := "fnExactNumberOfWord", inPlace := ["internal/bytealg.IndexByteString", "internal/bytealg.IndexString"], unfollowed := true, recurses := true, named := ["loop.example/g01265/impl.letterBars", "loop.example/g01265/impl.digitBars", "internal/bytealg.MaxLen"], apart := false, laid := [("loop.example/g01265/impl.letterBars", laid_loop_example_g01265_impl_letterBars), ("loop.example/g01265/impl.digitBars", laid_loop_example_g01265_impl_digitBars)] }
def FnExactNumberOfWordSaid : Prop := fnExactNumberOfWordRow.holds Tryd.pinned (OpenSpec.ofChange fnExactNumberOfWordSpec)

/-- ITS FALSE NEIGHBOUR: 'it returns false'. Refute it at one input. -/
def fnExactNumberOfWordWrong : ChangeSpec := { name := "fnExactNumberOfWord", vars := ["loop.example/g01265/impl.letterBars", "loop.example/g01265/impl.digitBars"], fn := fun _ => fun
  | [d, g1, g2] => { results := [.lit (.bool false)], args := [d], vars := [g1, g2] }
  | _ => none }
def FnExactNumberOfWordWrongFalsely : Prop := fnExactNumberOfWordRow.holds Tryd.pinned (OpenSpec.ofChange fnExactNumberOfWordWrong)

/-- 'laws.FnReadings': WHATEVER THE INPUT: true; the input reads as it did. -/
def fnReadingsSpec : ChangeSpec := { name := "fnReadings", vars := ["loop.example/g01265/impl.letterBars"], fn := fun _ => fun
  | [d, g1] => { results := [.lit (.bool true)], args := [d], vars := [g1] }
  | _ => none }
def fnReadingsRow : OpenClaim := { program := "ytgpgjaebhfhjoabdoor", sum := "53277280d71dc39d838cdf3adf6e7adf0c5a876190c532bc24f991e340983aa7", func := "loop.example/g01265/laws.FnReadings", spec := "fnReadings", inPlace := ["internal/bytealg.IndexByteString", "internal/bytealg.IndexString", "internal/abi.NoEscape"], unfollowed := true, recurses := true, named := ["loop.example/g01265/impl.letterBars", "internal/bytealg.MaxLen"], apart := false, laid := [("loop.example/g01265/impl.letterBars", laid_loop_example_g01265_impl_letterBars)] }
def FnReadingsSaid : Prop := fnReadingsRow.holds Tryd.pinned (OpenSpec.ofChange fnReadingsSpec)

/-- ITS FALSE NEIGHBOUR: 'it returns false'. Refute it at one input. -/
def fnReadingsWrong : ChangeSpec := { name := "fnReadings", vars := ["loop.example/g01265/impl.letterBars"], fn := fun _ => fun
  | [d, g1] => { results := [.lit (.bool false)], args := [d], vars := [g1] }
  | _ => none }
def FnReadingsWrongFalsely : Prop := fnReadingsRow.holds Tryd.pinned (OpenSpec.ofChange fnReadingsWrong)

/- THE SECOND FORM. 'bulk': how many values and letters a reading holds, each counted each time it is reached (what is shared counts as often as it is met; a slice's spare places count too). A statement '..UptoSaid' is the law's where the arguments, and the package variables that the reading takes, are together of bulk at most 1048576: NARROWER than '..Said'. Prove '..Said' where nothing that the law and all that it calls make is longer than what came in: it says more and counts as full. Else prove '..UptoSaid'. A law counts once. -/
mutual
def uptoBulk {H : Type} : DataW H → Nat
  | .lit (.string bytes) => bytes.length + 1
  | .lit _ => 1
  | .nil => 1
  | .ptr d => uptoBulk d + 1
  | .slice elems spare => uptoBulkAll elems + uptoBulkAll spare + 1
  | .agg parts => uptoBulkAll parts + 1
  | .iface _ d => uptoBulk d + 1
  | .map entries => uptoBulkEntries entries + 1
  | .held _ => 1
def uptoBulkAll {H : Type} : List (DataW H) → Nat
  | [] => 0
  | d :: r => uptoBulk d + uptoBulkAll r
def uptoBulkEntries {H : Type} : List (Lit × DataW H) → Nat
  | [] => 0
  | x :: r => uptoBulkEntry x + uptoBulkEntries r
def uptoBulkEntry {H : Type} : Lit × DataW H → Nat
  | (.string bytes, d) => bytes.length + uptoBulk d + 1
  | (_, d) => uptoBulk d + 1
 end
def uptoSmall : (H : Type) → List (DataW H) → Bool := fun _ ds => decide (uptoBulkAll ds ≤ 1048576)
def OpenSpec.upto (s : _root_.Go.ChangeSpec) : _root_.Go.OpenSpec := { _root_.Go.OpenSpec.ofChange s with cond := some uptoSmall }

/-- 'laws.FnExactLeastFarLetters', WHERE WHAT IT READS IS OF BULK AT MOST 1048576: true; the input reads as it did. -/
def fnExactLeastFarLettersUptoRow : OpenClaim := { program := "ytgpgjaebhfhjoabdoor", sum := "53277280d71dc39d838cdf3adf6e7adf0c5a876190c532bc24f991e340983aa7", func := "loop.example/g01265/laws.FnExactLeastFarLetters", spec := "fnExactLeastFarLetters", inPlace := ["internal/bytealg.IndexByteString", "internal/bytealg.IndexString"], named := ["loop.example/g01265/impl.letterBars", "internal/bytealg.MaxLen"], apart := false, laid := [("loop.example/g01265/impl.letterBars", laid_loop_example_g01265_impl_letterBars)], narrowed := true }
def FnExactLeastFarLettersUptoSaid : Prop := fnExactLeastFarLettersUptoRow.holds Tryd.pinned (OpenSpec.upto fnExactLeastFarLettersSpec)

/-- 'laws.FnExactWordOfNumber', WHERE WHAT IT READS IS OF BULK AT MOST 1048576: true; the input reads as it did. -/
def fnExactWordOfNumberUptoRow : OpenClaim := { program := "ytgpgjaebhfhjoabdoor", sum := "53277280d71dc39d838cdf3adf6e7adf0c5a876190c532bc24f991e340983aa7", func := "loop.example/g01265/laws.FnExactWordOfNumber", spec := "fnExactWordOfNumber", inPlace := ["internal/bytealg.IndexByteString", "internal/bytealg.IndexString", "internal/abi.NoEscape"], unfollowed := true, recurses := true, named := ["internal/strconv.uint64pow10", "math/bits.deBruijn32tab", "math/bits.deBruijn64tab", "loop.example/g01265/impl.digitBars", "loop.example/g01265/impl.letterBars", "internal/bytealg.MaxLen"], apart := false, laid := [("math/bits.deBruijn32tab", laid_math_bits_deBruijn32tab), ("math/bits.deBruijn64tab", laid_math_bits_deBruijn64tab), ("internal/strconv.uint64pow10", laid_internal_strconv_uint64pow10), ("loop.example/g01265/impl.letterBars", laid_loop_example_g01265_impl_letterBars), ("loop.example/g01265/impl.digitBars", laid_loop_example_g01265_impl_digitBars)], narrowed := true }
def FnExactWordOfNumberUptoSaid : Prop := fnExactWordOfNumberUptoRow.holds Tryd.pinned (OpenSpec.upto fnExactWordOfNumberSpec)

/-- 'laws.FnExactNumberOfWord', WHERE WHAT IT READS IS OF BULK AT MOST 1048576: true; the input reads as it did. -/
def fnExactNumberOfWordUptoRow : OpenClaim := { program := "ytgpgjaebhfhjoabdoor", sum := "53277280d71dc39d838cdf3adf6e7adf0c5a876190c532bc24f991e340983aa7", func := "loop.example/g01265/laws.FnExactNumberOfWord", spec := "fnExactNumberOfWord", inPlace := ["internal/bytealg.IndexByteString", "internal/bytealg.IndexString"], unfollowed := true, recurses := true, named := ["loop.example/g01265/impl.letterBars", "loop.example/g01265/impl.digitBars", "internal/bytealg.MaxLen"], apart := false, laid := [("loop.example/g01265/impl.letterBars", laid_loop_example_g01265_impl_letterBars), ("loop.example/g01265/impl.digitBars", laid_loop_example_g01265_impl_digitBars)], narrowed := true }
def FnExactNumberOfWordUptoSaid : Prop := fnExactNumberOfWordUptoRow.holds Tryd.pinned (OpenSpec.upto fnExactNumberOfWordSpec)

/-- 'laws.FnReadings', WHERE WHAT IT READS IS OF BULK AT MOST 1048576: true; the input reads as it did. -/
def fnReadingsUptoRow : OpenClaim := { program := "ytgpgjaebhfhjoabdoor", sum := "53277280d71dc39d838cdf3adf6e7adf0c5a876190c532bc24f991e340983aa7", func := "loop.example/g01265/laws.FnReadings", spec := "fnReadings", inPlace := ["internal/bytealg.IndexByteString", "internal/bytealg.IndexString", "internal/abi.NoEscape"], unfollowed := true, recurses := true, named := ["loop.example/g01265/impl.letterBars", "internal/bytealg.MaxLen"], apart := false, laid := [("loop.example/g01265/impl.letterBars", laid_loop_example_g01265_impl_letterBars)], narrowed := true }
def FnReadingsUptoSaid : Prop := fnReadingsUptoRow.holds Tryd.pinned (OpenSpec.upto fnReadingsSpec)

end Rows
end Go.Proofs.YtgpgjaebhfhjoabDoor
