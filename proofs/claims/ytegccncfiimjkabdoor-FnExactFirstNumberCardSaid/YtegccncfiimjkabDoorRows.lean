/-
  NARROWER THAN 'FOR EVERY INPUT', by the rows' own cells (each row's printed sentence says how): FnExactDigitsShown: laid · FnExactToldDigits: laid · FnExactConfusedDigits: laid · FnExactCountImages: laid · FnExactIsHarmless: laid · FnExactCountNumbers: laid · FnExactFirstNumber: laid.
  DERIVED. THE GIVEN ROWS OF THIS SEAT. 7 by the template 'for every input the law returns true; each argument reads behind the call as it read before'; 0 by the template 'total and deterministic' (their statements: YtegccncfiimjkabDoorTotals.lean).
  GIVEN WITH THE SEED: the statements are not yours to turn. If you find one false, say at which input.
  Laid BY PROGRAM, IN A SANDBOX (cutbox-rows.mjs): the forced cells as the released guide's own fill.sh prints them over the translation 66704ac0c585f159… (all of the seat's roots in one cut). By AI agents, Wed Nov 11 2026. No macro, syntax, notation, axiom, sorry.
-/
import Derived.Test.YtegccncfiimjkabDoorChecked
import GoSem.Claim
import GoSem.ClaimJoined
import GoSem.ClaimMapViews
import Derived.JoinedTies
import Derived.KernelRfl
namespace Go.Proofs.YtegccncfiimjkabDoor
/- THE CELL 'sum', in the pinned program and in every row, IS THE sha256 OF THE DUMP (.gsa) THAT YtegccncfiimjkabDoorProg.lean LOADS. Nothing in Lean hashes anything: it is a label: what it is worth is what the hold of that sum in a sandbox is worth. -/
noncomputable def Tryd.pinned : Pinned := { name := "ytegccncfiimjkabdoor", sum := "66704ac0c585f159219165bfa81a1f38bbb3c91380cb808457c46abceac6b0cc", checked := Tryd.checked }
namespace Rows
def none {H : Type} : Left H := { results := [], args := [] }

/- WHAT THE LISTED PACKAGE-LEVEL VARIABLES READ AS WHEN THE CALL BEGINS. Each datum BY PROGRAM (the guide's laid-datum.mjs) off the statement by which the dump's own 'gosem.cut.vars' lays the variable. In a bare row this is a premise. The card (YtegccncfiimjkabDoorCards.lean) ties it to the program's text. -/
def laid_loop_example_g01265_impl_digitBars {H : Type} : DataW H := .agg [.lit (.string [97, 98, 99, 100, 101, 102]), .lit (.string [98, 99]), .lit (.string [97, 98, 100, 101, 103]), .lit (.string [97, 98, 99, 100, 103]), .lit (.string [98, 99, 102, 103]), .lit (.string [97, 99, 100, 102, 103]), .lit (.string [97, 99, 100, 101, 102, 103]), .lit (.string [97, 98, 99]), .lit (.string [97, 98, 99, 100, 101, 102, 103]), .lit (.string [97, 98, 99, 100, 102, 103])]

/-- 'laws.FnExactDigitsShown': WHATEVER THE INPUT: true; the input reads as it did. -/
def fnExactDigitsShownSpec : ChangeSpec := { name := "fnExactDigitsShown", vars := ["loop.example/g01265/impl.digitBars"], fn := fun _ => fun
  | [d1, d2, g1] => { results := [.lit (.bool true)], args := [d1, d2], vars := [g1] }
  | _ => none }
def fnExactDigitsShownRow : OpenClaim := { program := "ytegccncfiimjkabdoor", sum := "66704ac0c585f159219165bfa81a1f38bbb3c91380cb808457c46abceac6b0cc", func := "loop.example/g01265/laws.FnExactDigitsShown", spec := "fnExactDigitsShown", inPlace := ["internal/bytealg.IndexByteString", "internal/bytealg.IndexString"], named := ["loop.example/g01265/impl.digitBars", "internal/bytealg.MaxLen"], apart := false, laid := [("loop.example/g01265/impl.digitBars", laid_loop_example_g01265_impl_digitBars)] }
def FnExactDigitsShownSaid : Prop := fnExactDigitsShownRow.holds Tryd.pinned (OpenSpec.ofChange fnExactDigitsShownSpec)

/-- ITS FALSE NEIGHBOUR: 'it returns false'. Refute it at one input. -/
def fnExactDigitsShownWrong : ChangeSpec := { name := "fnExactDigitsShown", vars := ["loop.example/g01265/impl.digitBars"], fn := fun _ => fun
  | [d1, d2, g1] => { results := [.lit (.bool false)], args := [d1, d2], vars := [g1] }
  | _ => none }
def FnExactDigitsShownWrongFalsely : Prop := fnExactDigitsShownRow.holds Tryd.pinned (OpenSpec.ofChange fnExactDigitsShownWrong)

/-- 'laws.FnExactToldDigits': WHATEVER THE INPUT: true; the input reads as it did. -/
def fnExactToldDigitsSpec : ChangeSpec := { name := "fnExactToldDigits", vars := ["loop.example/g01265/impl.digitBars"], fn := fun _ => fun
  | [d, g1] => { results := [.lit (.bool true)], args := [d], vars := [g1] }
  | _ => none }
def fnExactToldDigitsRow : OpenClaim := { program := "ytegccncfiimjkabdoor", sum := "66704ac0c585f159219165bfa81a1f38bbb3c91380cb808457c46abceac6b0cc", func := "loop.example/g01265/laws.FnExactToldDigits", spec := "fnExactToldDigits", inPlace := ["internal/bytealg.IndexByteString", "internal/bytealg.IndexString"], unfollowed := true, recurses := true, named := ["loop.example/g01265/impl.digitBars", "internal/bytealg.MaxLen"], apart := false, laid := [("loop.example/g01265/impl.digitBars", laid_loop_example_g01265_impl_digitBars)] }
def FnExactToldDigitsSaid : Prop := fnExactToldDigitsRow.holds Tryd.pinned (OpenSpec.ofChange fnExactToldDigitsSpec)

/-- ITS FALSE NEIGHBOUR: 'it returns false'. Refute it at one input. -/
def fnExactToldDigitsWrong : ChangeSpec := { name := "fnExactToldDigits", vars := ["loop.example/g01265/impl.digitBars"], fn := fun _ => fun
  | [d, g1] => { results := [.lit (.bool false)], args := [d], vars := [g1] }
  | _ => none }
def FnExactToldDigitsWrongFalsely : Prop := fnExactToldDigitsRow.holds Tryd.pinned (OpenSpec.ofChange fnExactToldDigitsWrong)

/-- 'laws.FnExactConfusedDigits': WHATEVER THE INPUT: true; the input reads as it did. -/
def fnExactConfusedDigitsSpec : ChangeSpec := { name := "fnExactConfusedDigits", vars := ["loop.example/g01265/impl.digitBars"], fn := fun _ => fun
  | [d, g1] => { results := [.lit (.bool true)], args := [d], vars := [g1] }
  | _ => none }
def fnExactConfusedDigitsRow : OpenClaim := { program := "ytegccncfiimjkabdoor", sum := "66704ac0c585f159219165bfa81a1f38bbb3c91380cb808457c46abceac6b0cc", func := "loop.example/g01265/laws.FnExactConfusedDigits", spec := "fnExactConfusedDigits", inPlace := ["internal/bytealg.IndexByteString", "internal/bytealg.IndexString"], unfollowed := true, recurses := true, named := ["loop.example/g01265/impl.digitBars", "internal/bytealg.MaxLen"], apart := false, laid := [("loop.example/g01265/impl.digitBars", laid_loop_example_g01265_impl_digitBars)] }
def FnExactConfusedDigitsSaid : Prop := fnExactConfusedDigitsRow.holds Tryd.pinned (OpenSpec.ofChange fnExactConfusedDigitsSpec)

/-- ITS FALSE NEIGHBOUR: 'it returns false'. Refute it at one input. -/
def fnExactConfusedDigitsWrong : ChangeSpec := { name := "fnExactConfusedDigits", vars := ["loop.example/g01265/impl.digitBars"], fn := fun _ => fun
  | [d, g1] => { results := [.lit (.bool false)], args := [d], vars := [g1] }
  | _ => none }
def FnExactConfusedDigitsWrongFalsely : Prop := fnExactConfusedDigitsRow.holds Tryd.pinned (OpenSpec.ofChange fnExactConfusedDigitsWrong)

/-- 'laws.FnExactCountImages': WHATEVER THE INPUT: true; the input reads as it did. -/
def fnExactCountImagesSpec : ChangeSpec := { name := "fnExactCountImages", vars := ["loop.example/g01265/impl.digitBars"], fn := fun _ => fun
  | [d, g1] => { results := [.lit (.bool true)], args := [d], vars := [g1] }
  | _ => none }
def fnExactCountImagesRow : OpenClaim := { program := "ytegccncfiimjkabdoor", sum := "66704ac0c585f159219165bfa81a1f38bbb3c91380cb808457c46abceac6b0cc", func := "loop.example/g01265/laws.FnExactCountImages", spec := "fnExactCountImages", inPlace := ["internal/bytealg.IndexByteString", "internal/bytealg.IndexString"], named := ["loop.example/g01265/impl.digitBars", "internal/bytealg.MaxLen"], apart := false, laid := [("loop.example/g01265/impl.digitBars", laid_loop_example_g01265_impl_digitBars)] }
def FnExactCountImagesSaid : Prop := fnExactCountImagesRow.holds Tryd.pinned (OpenSpec.ofChange fnExactCountImagesSpec)

/-- ITS FALSE NEIGHBOUR: 'it returns false'. Refute it at one input. -/
def fnExactCountImagesWrong : ChangeSpec := { name := "fnExactCountImages", vars := ["loop.example/g01265/impl.digitBars"], fn := fun _ => fun
  | [d, g1] => { results := [.lit (.bool false)], args := [d], vars := [g1] }
  | _ => none }
def FnExactCountImagesWrongFalsely : Prop := fnExactCountImagesRow.holds Tryd.pinned (OpenSpec.ofChange fnExactCountImagesWrong)

/-- 'laws.FnExactIsHarmless': WHATEVER THE INPUT: true; the input reads as it did. -/
def fnExactIsHarmlessSpec : ChangeSpec := { name := "fnExactIsHarmless", vars := ["loop.example/g01265/impl.digitBars"], fn := fun _ => fun
  | [d, g1] => { results := [.lit (.bool true)], args := [d], vars := [g1] }
  | _ => none }
def fnExactIsHarmlessRow : OpenClaim := { program := "ytegccncfiimjkabdoor", sum := "66704ac0c585f159219165bfa81a1f38bbb3c91380cb808457c46abceac6b0cc", func := "loop.example/g01265/laws.FnExactIsHarmless", spec := "fnExactIsHarmless", inPlace := ["internal/bytealg.IndexByteString", "internal/bytealg.IndexString"], named := ["loop.example/g01265/impl.digitBars", "internal/bytealg.MaxLen"], apart := false, laid := [("loop.example/g01265/impl.digitBars", laid_loop_example_g01265_impl_digitBars)] }
def FnExactIsHarmlessSaid : Prop := fnExactIsHarmlessRow.holds Tryd.pinned (OpenSpec.ofChange fnExactIsHarmlessSpec)

/-- ITS FALSE NEIGHBOUR: 'it returns false'. Refute it at one input. -/
def fnExactIsHarmlessWrong : ChangeSpec := { name := "fnExactIsHarmless", vars := ["loop.example/g01265/impl.digitBars"], fn := fun _ => fun
  | [d, g1] => { results := [.lit (.bool false)], args := [d], vars := [g1] }
  | _ => none }
def FnExactIsHarmlessWrongFalsely : Prop := fnExactIsHarmlessRow.holds Tryd.pinned (OpenSpec.ofChange fnExactIsHarmlessWrong)

/-- 'laws.FnExactCountNumbers': WHATEVER THE INPUT: true; the input reads as it did. -/
def fnExactCountNumbersSpec : ChangeSpec := { name := "fnExactCountNumbers", vars := ["loop.example/g01265/impl.digitBars"], fn := fun _ => fun
  | [d1, d2, g1] => { results := [.lit (.bool true)], args := [d1, d2], vars := [g1] }
  | _ => none }
def fnExactCountNumbersRow : OpenClaim := { program := "ytegccncfiimjkabdoor", sum := "66704ac0c585f159219165bfa81a1f38bbb3c91380cb808457c46abceac6b0cc", func := "loop.example/g01265/laws.FnExactCountNumbers", spec := "fnExactCountNumbers", inPlace := ["internal/bytealg.IndexByteString", "internal/bytealg.IndexString"], named := ["loop.example/g01265/impl.digitBars", "internal/bytealg.MaxLen"], apart := false, laid := [("loop.example/g01265/impl.digitBars", laid_loop_example_g01265_impl_digitBars)] }
def FnExactCountNumbersSaid : Prop := fnExactCountNumbersRow.holds Tryd.pinned (OpenSpec.ofChange fnExactCountNumbersSpec)

/-- ITS FALSE NEIGHBOUR: 'it returns false'. Refute it at one input. -/
def fnExactCountNumbersWrong : ChangeSpec := { name := "fnExactCountNumbers", vars := ["loop.example/g01265/impl.digitBars"], fn := fun _ => fun
  | [d1, d2, g1] => { results := [.lit (.bool false)], args := [d1, d2], vars := [g1] }
  | _ => none }
def FnExactCountNumbersWrongFalsely : Prop := fnExactCountNumbersRow.holds Tryd.pinned (OpenSpec.ofChange fnExactCountNumbersWrong)

/-- 'laws.FnExactFirstNumber': WHATEVER THE INPUT: true; the input reads as it did. -/
def fnExactFirstNumberSpec : ChangeSpec := { name := "fnExactFirstNumber", vars := ["loop.example/g01265/impl.digitBars"], fn := fun _ => fun
  | [d1, d2, g1] => { results := [.lit (.bool true)], args := [d1, d2], vars := [g1] }
  | _ => none }
def fnExactFirstNumberRow : OpenClaim := { program := "ytegccncfiimjkabdoor", sum := "66704ac0c585f159219165bfa81a1f38bbb3c91380cb808457c46abceac6b0cc", func := "loop.example/g01265/laws.FnExactFirstNumber", spec := "fnExactFirstNumber", inPlace := ["internal/bytealg.IndexByteString", "internal/bytealg.IndexString"], named := ["loop.example/g01265/impl.digitBars", "internal/bytealg.MaxLen"], apart := false, laid := [("loop.example/g01265/impl.digitBars", laid_loop_example_g01265_impl_digitBars)] }
def FnExactFirstNumberSaid : Prop := fnExactFirstNumberRow.holds Tryd.pinned (OpenSpec.ofChange fnExactFirstNumberSpec)

/-- ITS FALSE NEIGHBOUR: 'it returns false'. Refute it at one input. -/
def fnExactFirstNumberWrong : ChangeSpec := { name := "fnExactFirstNumber", vars := ["loop.example/g01265/impl.digitBars"], fn := fun _ => fun
  | [d1, d2, g1] => { results := [.lit (.bool false)], args := [d1, d2], vars := [g1] }
  | _ => none }
def FnExactFirstNumberWrongFalsely : Prop := fnExactFirstNumberRow.holds Tryd.pinned (OpenSpec.ofChange fnExactFirstNumberWrong)

/- THE SECOND FORM. 'bulk': how many values and letters a reading holds, each counted each time it is reached (what is shared counts as often as it is met; a slice's spare places count too). A statement '..UptoSaid' is the law's where the arguments, and the package variables that the reading takes, are together of bulk at most 1048576: NARROWER than '..Said'. Prove '..Said' where nothing that the law and all that it calls make is longer than what came in: it says more and counts as full. Else prove '..UptoSaid'. A law counts once. -/
mutual
def uptoBulk {H : Type} : DataW H → Nat
  | .lit (.string bytes) => bytes.length + 1
  | .lit _ => 1
  | .nil => 1
  | .ptr d => uptoBulk d + 1
  | .slice elems spare => uptoBulkAll elems + uptoBulkAll spare + 1
  | .agg parts => uptoBulkAll parts + 1
  | .iface _ d => uptoBulk d + 1
  | .map entries => uptoBulkEntries entries + 1
  | .held _ => 1
def uptoBulkAll {H : Type} : List (DataW H) → Nat
  | [] => 0
  | d :: r => uptoBulk d + uptoBulkAll r
def uptoBulkEntries {H : Type} : List (Lit × DataW H) → Nat
  | [] => 0
  | x :: r => uptoBulkEntry x + uptoBulkEntries r
def uptoBulkEntry {H : Type} : Lit × DataW H → Nat
  | (.string bytes, d) => bytes.length + uptoBulk d + 1
  | (_, d) => uptoBulk d + 1
 end
def uptoSmall : (H : Type) → List (DataW H) → Bool := fun _ ds => decide (uptoBulkAll ds ≤ 1048576)
def OpenSpec.upto (s : _root_.Go.ChangeSpec) : _root_.Go.OpenSpec := { _root_.Go.OpenSpec.ofChange s with cond := some uptoSmall }

/-- 'laws.FnExactDigitsShown', WHERE WHAT IT READS IS OF BULK AT MOST 1048576: true; the input reads as it did. -/
def fnExactDigitsShownUptoRow : OpenClaim := { program := "ytegccncfiimjkabdoor", sum := "66704ac0c585f159219165bfa81a1f38bbb3c91380cb808457c46abceac6b0cc", func := "loop.example/g01265/laws.FnExactDigitsShown", spec := "fnExactDigitsShown", inPlace := ["internal/bytealg.IndexByteString", "internal/bytealg.IndexString"], named := ["loop.example/g01265/impl.digitBars", "internal/bytealg.MaxLen"], apart := false, laid := [("loop.example/g01265/impl.digitBars", laid_loop_example_g01265_impl_digitBars)], narrowed := true }
def FnExactDigitsShownUptoSaid : Prop := fnExactDigitsShownUptoRow.holds Tryd.pinned (OpenSpec.upto fnExactDigitsShownSpec)

/-- 'laws.FnExactToldDigits', WHERE WHAT IT READS IS OF BULK AT MOST 1048576: true; the input reads as it did. -/
def fnExactToldDigitsUptoRow : OpenClaim := { program := "ytegccncfiimjkabdoor", sum := "66704ac0c585f159219165bfa81a1f38bbb3c91380cb808457c46abceac6b0cc", func := "loop.example/g01265/laws.FnExactToldDigits", spec := "fnExactToldDigits", inPlace := ["internal/bytealg.IndexByteString", "internal/bytealg.IndexString"], unfollowed := true, recurses := true, named := ["loop.example/g01265/impl.digitBars", "internal/bytealg.MaxLen"], apart := false, laid := [("loop.example/g01265/impl.digitBars", laid_loop_example_g01265_impl_digitBars)], narrowed := true }
def FnExactToldDigitsUptoSaid : Prop := fnExactToldDigitsUptoRow.holds Tryd.pinned (OpenSpec.upto fnExactToldDigitsSpec)

/-- 'laws.FnExactConfusedDigits', WHERE WHAT IT READS IS OF BULK AT MOST 1048576: true; the input reads as it did. -/
def fnExactConfusedDigitsUptoRow : OpenClaim := { program := "ytegccncfiimjkabdoor", sum := "66704ac0c585f159219165bfa81a1f38bbb3c91380cb808457c46abceac6b0cc", func := "loop.example/g01265/laws.FnExactConfusedDigits", spec := "fnExactConfusedDigits", inPlace := ["internal/bytealg.IndexByteString", "internal/bytealg.IndexString"], unfollowed := true, recurses := true, named := ["loop.example/g01265/impl.digitBars", "internal/bytealg.MaxLen"], apart := false, laid := [("loop.example/g01265/impl.digitBars", laid_loop_example_g01265_impl_digitBars)], narrowed := true }
def FnExactConfusedDigitsUptoSaid : Prop := fnExactConfusedDigitsUptoRow.holds Tryd.pinned (OpenSpec.upto fnExactConfusedDigitsSpec)

/-- 'laws.FnExactCountImages', WHERE WHAT IT READS IS OF BULK AT MOST 1048576: true; the input reads as it did. -/
def fnExactCountImagesUptoRow : OpenClaim := { program := "ytegccncfiimjkabdoor", sum := "66704ac0c585f159219165bfa81a1f38bbb3c91380cb808457c46abceac6b0cc", func := "loop.example/g01265/laws.FnExactCountImages", spec := "fnExactCountImages", inPlace := ["internal/bytealg.IndexByteString", "internal/bytealg.IndexString"], named := ["loop.example/g01265/impl.digitBars", "internal/bytealg.MaxLen"], apart := false, laid := [("loop.example/g01265/impl.digitBars", laid_loop_example_g01265_impl_digitBars)], narrowed := true }
def FnExactCountImagesUptoSaid : Prop := fnExactCountImagesUptoRow.holds Tryd.pinned (OpenSpec.upto fnExactCountImagesSpec)

/-- 'laws.FnExactIsHarmless', WHERE WHAT IT READS IS OF BULK AT MOST 1048576: true; the input reads as it did. -/
def fnExactIsHarmlessUptoRow : OpenClaim := { program := "ytegccncfiimjkabdoor", sum := "66704ac0c585f159219165bfa81a1f38bbb3c91380cb808457c46abceac6b0cc", func := "loop.example/g01265/laws.FnExactIsHarmless", spec := "fnExactIsHarmless", inPlace := ["internal/bytealg.IndexByteString", "internal/bytealg.IndexString"], named := ["loop.example/g01265/impl.digitBars", "internal/bytealg.MaxLen"], apart := false, laid := [("loop.example/g01265/impl.digitBars", laid_loop_example_g01265_impl_digitBars)], narrowed := true }
def FnExactIsHarmlessUptoSaid : Prop := fnExactIsHarmlessUptoRow.holds Tryd.pinned (OpenSpec.upto fnExactIsHarmlessSpec)

/-- 'laws.FnExactCountNumbers', WHERE WHAT IT READS IS OF BULK AT MOST 1048576: true; the input reads as it did. -/
def fnExactCountNumbersUptoRow : OpenClaim := { program := "ytegccncfiimjkabdoor", sum := "66704ac0c585f159219165bfa81a1f38bbb3c91380cb808457c46abceac6b0cc", func := "loop.example/g01265/laws.FnExactCountNumbers", spec := "fnExactCountNumbers", inPlace := ["internal/bytealg.IndexByteString", "internal/bytealg.IndexString"], named := ["loop.example/g01265/impl.digitBars", "internal/bytealg.MaxLen"], apart := false, laid := [("loop.example/g01265/impl.digitBars", laid_loop_example_g01265_impl_digitBars)], narrowed := true }
def FnExactCountNumbersUptoSaid : Prop := fnExactCountNumbersUptoRow.holds Tryd.pinned (OpenSpec.upto fnExactCountNumbersSpec)

/-- 'laws.FnExactFirstNumber', WHERE WHAT IT READS IS OF BULK AT MOST 1048576: true; the input reads as it did. -/
def fnExactFirstNumberUptoRow : OpenClaim := { program := "ytegccncfiimjkabdoor", sum := "66704ac0c585f159219165bfa81a1f38bbb3c91380cb808457c46abceac6b0cc", func := "loop.example/g01265/laws.FnExactFirstNumber", spec := "fnExactFirstNumber", inPlace := ["internal/bytealg.IndexByteString", "internal/bytealg.IndexString"], named := ["loop.example/g01265/impl.digitBars", "internal/bytealg.MaxLen"], apart := false, laid := [("loop.example/g01265/impl.digitBars", laid_loop_example_g01265_impl_digitBars)], narrowed := true }
def FnExactFirstNumberUptoSaid : Prop := fnExactFirstNumberUptoRow.holds Tryd.pinned (OpenSpec.upto fnExactFirstNumberSpec)

end Rows
end Go.Proofs.YtegccncfiimjkabDoor
