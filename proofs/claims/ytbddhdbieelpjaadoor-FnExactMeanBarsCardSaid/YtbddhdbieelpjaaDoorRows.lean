/-
  NARROWER THAN 'FOR EVERY INPUT', by the rows' own cells (each row's printed sentence says how): FnFlicker: laid · FnExactChanceReadAs: laid · FnExactChanceNoDigit: laid · FnExactChancesFor: laid · FnExactMeanBars: laid · FnExactMeanImages: laid · FnExactChanceTold: laid · FnExactChanceHarmless: laid · FnExactChanceFull: laid · FnExactMeanFound: laid · FnExactMeanChanges: laid · FnExactChanceSameDigit: laid.
  DERIVED. THE GIVEN ROWS OF THIS SEAT. 12 by the template 'for every input the law returns true; each argument reads behind the call as it read before'; 0 by the template 'total and deterministic' (their statements: YtbddhdbieelpjaaDoorTotals.lean).
  GIVEN WITH THE SEED: the statements are not yours to turn. If you find one false, say at which input.
  Laid BY PROGRAM, IN A SANDBOX (cutbox-rows.mjs): the forced cells as the released guide's own fill.sh prints them over the translation d5f9acd44569ee58… (all of the seat's roots in one cut). By AI agents, Wed Nov 11 2026. No macro, syntax, notation, axiom, sorry.
-/
import Derived.Test.YtbddhdbieelpjaaDoorChecked
import GoSem.Claim
import GoSem.ClaimJoined
import GoSem.ClaimMapViews
import Derived.JoinedTies
import Derived.KernelRfl
namespace Go.Proofs.YtbddhdbieelpjaaDoor
/- THE CELL 'sum', in the pinned program and in every row, IS THE sha256 OF THE DUMP (.gsa) THAT YtbddhdbieelpjaaDoorProg.lean LOADS. Nothing in Lean hashes anything: it is a label: what it is worth is what the hold of that sum in a sandbox is worth. -/
noncomputable def Tryd.pinned : Pinned := { name := "ytbddhdbieelpjaadoor", sum := "d5f9acd44569ee587d7a9cba40e78a7fdd17a6847d862629a2aa86da4166a35f", checked := Tryd.checked }
namespace Rows
def none {H : Type} : Left H := { results := [], args := [] }

/- WHAT THE LISTED PACKAGE-LEVEL VARIABLES READ AS WHEN THE CALL BEGINS. Each datum BY PROGRAM (the guide's laid-datum.mjs) off the statement by which the dump's own 'gosem.cut.vars' lays the variable. In a bare row this is a premise. The card (YtbddhdbieelpjaaDoorCards.lean) ties it to the program's text. -/
def laid_loop_example_g01265_impl_digitBars {H : Type} : DataW H := .agg [.lit (.string [97, 98, 99, 100, 101, 102]), .lit (.string [98, 99]), .lit (.string [97, 98, 100, 101, 103]), .lit (.string [97, 98, 99, 100, 103]), .lit (.string [98, 99, 102, 103]), .lit (.string [97, 99, 100, 102, 103]), .lit (.string [97, 99, 100, 101, 102, 103]), .lit (.string [97, 98, 99]), .lit (.string [97, 98, 99, 100, 101, 102, 103]), .lit (.string [97, 98, 99, 100, 102, 103])]
def laid_loop_example_g01265_impl_never {H : Type} : DataW H := .agg [.lit (.int .i64 0), .lit (.int .i64 1)]
def laid_math_bits_deBruijn32tab {H : Type} : DataW H := .agg [.lit (.int .u8 0), .lit (.int .u8 1), .lit (.int .u8 28), .lit (.int .u8 2), .lit (.int .u8 29), .lit (.int .u8 14), .lit (.int .u8 24), .lit (.int .u8 3), .lit (.int .u8 30), .lit (.int .u8 22), .lit (.int .u8 20), .lit (.int .u8 15), .lit (.int .u8 25), .lit (.int .u8 17), .lit (.int .u8 4), .lit (.int .u8 8), .lit (.int .u8 31), .lit (.int .u8 27), .lit (.int .u8 13), .lit (.int .u8 23), .lit (.int .u8 21), .lit (.int .u8 19), .lit (.int .u8 16), .lit (.int .u8 7), .lit (.int .u8 26), .lit (.int .u8 12), .lit (.int .u8 18), .lit (.int .u8 6), .lit (.int .u8 11), .lit (.int .u8 5), .lit (.int .u8 10), .lit (.int .u8 9)]
def laid_math_bits_deBruijn64tab {H : Type} : DataW H := .agg [.lit (.int .u8 0), .lit (.int .u8 1), .lit (.int .u8 56), .lit (.int .u8 2), .lit (.int .u8 57), .lit (.int .u8 49), .lit (.int .u8 28), .lit (.int .u8 3), .lit (.int .u8 61), .lit (.int .u8 58), .lit (.int .u8 42), .lit (.int .u8 50), .lit (.int .u8 38), .lit (.int .u8 29), .lit (.int .u8 17), .lit (.int .u8 4), .lit (.int .u8 62), .lit (.int .u8 47), .lit (.int .u8 59), .lit (.int .u8 36), .lit (.int .u8 45), .lit (.int .u8 43), .lit (.int .u8 51), .lit (.int .u8 22), .lit (.int .u8 53), .lit (.int .u8 39), .lit (.int .u8 33), .lit (.int .u8 30), .lit (.int .u8 24), .lit (.int .u8 18), .lit (.int .u8 12), .lit (.int .u8 5), .lit (.int .u8 63), .lit (.int .u8 55), .lit (.int .u8 48), .lit (.int .u8 27), .lit (.int .u8 60), .lit (.int .u8 41), .lit (.int .u8 37), .lit (.int .u8 16), .lit (.int .u8 46), .lit (.int .u8 35), .lit (.int .u8 44), .lit (.int .u8 21), .lit (.int .u8 52), .lit (.int .u8 32), .lit (.int .u8 23), .lit (.int .u8 11), .lit (.int .u8 54), .lit (.int .u8 26), .lit (.int .u8 40), .lit (.int .u8 15), .lit (.int .u8 34), .lit (.int .u8 20), .lit (.int .u8 31), .lit (.int .u8 10), .lit (.int .u8 25), .lit (.int .u8 14), .lit (.int .u8 19), .lit (.int .u8 9), .lit (.int .u8 13), .lit (.int .u8 8), .lit (.int .u8 7), .lit (.int .u8 6)]
def laid_internal_strconv_uint64pow10 {H : Type} : DataW H := .agg [.lit (.int .u64 1), .lit (.int .u64 10), .lit (.int .u64 100), .lit (.int .u64 1000), .lit (.int .u64 10000), .lit (.int .u64 100000), .lit (.int .u64 1000000), .lit (.int .u64 10000000), .lit (.int .u64 100000000), .lit (.int .u64 1000000000), .lit (.int .u64 10000000000), .lit (.int .u64 100000000000), .lit (.int .u64 1000000000000), .lit (.int .u64 10000000000000), .lit (.int .u64 100000000000000), .lit (.int .u64 1000000000000000), .lit (.int .u64 10000000000000000), .lit (.int .u64 100000000000000000), .lit (.int .u64 1000000000000000000), .lit (.int .u64 10000000000000000000)]

/-- 'laws.FnFlicker': WHATEVER THE INPUT: true; the input reads as it did. -/
def fnFlickerSpec : ChangeSpec := { name := "fnFlicker", vars := ["loop.example/g01265/impl.digitBars", "loop.example/g01265/impl.never"], fn := fun _ => fun
  | [d, g1, g2] => { results := [.lit (.bool true)], args := [d], vars := [g1, g2] }
  | _ => none }
def fnFlickerRow : OpenClaim := { program := "ytbddhdbieelpjaadoor", sum := "d5f9acd44569ee587d7a9cba40e78a7fdd17a6847d862629a2aa86da4166a35f", func := "loop.example/g01265/laws.FnFlicker", spec := "fnFlicker", inPlace := ["internal/bytealg.IndexByteString", "internal/bytealg.IndexString"], named := ["loop.example/g01265/impl.digitBars", "loop.example/g01265/impl.never", "internal/bytealg.MaxLen"], apart := false, laid := [("loop.example/g01265/impl.digitBars", laid_loop_example_g01265_impl_digitBars), ("loop.example/g01265/impl.never", laid_loop_example_g01265_impl_never)] }
def FnFlickerSaid : Prop := fnFlickerRow.holds Tryd.pinned (OpenSpec.ofChange fnFlickerSpec)

/-- ITS FALSE NEIGHBOUR: 'it returns false'. Refute it at one input. -/
def fnFlickerWrong : ChangeSpec := { name := "fnFlicker", vars := ["loop.example/g01265/impl.digitBars", "loop.example/g01265/impl.never"], fn := fun _ => fun
  | [d, g1, g2] => { results := [.lit (.bool false)], args := [d], vars := [g1, g2] }
  | _ => none }
def FnFlickerWrongFalsely : Prop := fnFlickerRow.holds Tryd.pinned (OpenSpec.ofChange fnFlickerWrong)

/-- 'laws.FnExactChanceReadAs': WHATEVER THE INPUT: true; the input reads as it did. -/
def fnExactChanceReadAsSpec : ChangeSpec := { name := "fnExactChanceReadAs", vars := ["loop.example/g01265/impl.digitBars"], fn := fun _ => fun
  | [d1, d2, d3, d4, g1] => { results := [.lit (.bool true)], args := [d1, d2, d3, d4], vars := [g1] }
  | _ => none }
def fnExactChanceReadAsRow : OpenClaim := { program := "ytbddhdbieelpjaadoor", sum := "d5f9acd44569ee587d7a9cba40e78a7fdd17a6847d862629a2aa86da4166a35f", func := "loop.example/g01265/laws.FnExactChanceReadAs", spec := "fnExactChanceReadAs", inPlace := ["internal/bytealg.IndexByteString", "internal/bytealg.IndexString"], named := ["loop.example/g01265/impl.digitBars", "internal/bytealg.MaxLen"], apart := false, laid := [("loop.example/g01265/impl.digitBars", laid_loop_example_g01265_impl_digitBars)] }
def FnExactChanceReadAsSaid : Prop := fnExactChanceReadAsRow.holds Tryd.pinned (OpenSpec.ofChange fnExactChanceReadAsSpec)

/-- ITS FALSE NEIGHBOUR: 'it returns false'. Refute it at one input. -/
def fnExactChanceReadAsWrong : ChangeSpec := { name := "fnExactChanceReadAs", vars := ["loop.example/g01265/impl.digitBars"], fn := fun _ => fun
  | [d1, d2, d3, d4, g1] => { results := [.lit (.bool false)], args := [d1, d2, d3, d4], vars := [g1] }
  | _ => none }
def FnExactChanceReadAsWrongFalsely : Prop := fnExactChanceReadAsRow.holds Tryd.pinned (OpenSpec.ofChange fnExactChanceReadAsWrong)

/-- 'laws.FnExactChanceNoDigit': WHATEVER THE INPUT: true; the input reads as it did. -/
def fnExactChanceNoDigitSpec : ChangeSpec := { name := "fnExactChanceNoDigit", vars := ["loop.example/g01265/impl.digitBars", "loop.example/g01265/impl.never"], fn := fun _ => fun
  | [d1, d2, d3, g1, g2] => { results := [.lit (.bool true)], args := [d1, d2, d3], vars := [g1, g2] }
  | _ => none }
def fnExactChanceNoDigitRow : OpenClaim := { program := "ytbddhdbieelpjaadoor", sum := "d5f9acd44569ee587d7a9cba40e78a7fdd17a6847d862629a2aa86da4166a35f", func := "loop.example/g01265/laws.FnExactChanceNoDigit", spec := "fnExactChanceNoDigit", inPlace := ["internal/bytealg.IndexByteString", "internal/bytealg.IndexString"], named := ["loop.example/g01265/impl.digitBars", "loop.example/g01265/impl.never", "internal/bytealg.MaxLen"], apart := false, laid := [("loop.example/g01265/impl.digitBars", laid_loop_example_g01265_impl_digitBars), ("loop.example/g01265/impl.never", laid_loop_example_g01265_impl_never)] }
def FnExactChanceNoDigitSaid : Prop := fnExactChanceNoDigitRow.holds Tryd.pinned (OpenSpec.ofChange fnExactChanceNoDigitSpec)

/-- ITS FALSE NEIGHBOUR: 'it returns false'. Refute it at one input. -/
def fnExactChanceNoDigitWrong : ChangeSpec := { name := "fnExactChanceNoDigit", vars := ["loop.example/g01265/impl.digitBars", "loop.example/g01265/impl.never"], fn := fun _ => fun
  | [d1, d2, d3, g1, g2] => { results := [.lit (.bool false)], args := [d1, d2, d3], vars := [g1, g2] }
  | _ => none }
def FnExactChanceNoDigitWrongFalsely : Prop := fnExactChanceNoDigitRow.holds Tryd.pinned (OpenSpec.ofChange fnExactChanceNoDigitWrong)

/-- 'laws.FnExactChancesFor': WHATEVER THE INPUT: true; the input reads as it did. -/
def fnExactChancesForSpec : ChangeSpec := { name := "fnExactChancesFor", vars := ["loop.example/g01265/impl.never", "loop.example/g01265/impl.digitBars"], fn := fun _ => fun
  | [d1, d2, d3, g1, g2] => { results := [.lit (.bool true)], args := [d1, d2, d3], vars := [g1, g2] }
  | _ => none }
def fnExactChancesForRow : OpenClaim := { program := "ytbddhdbieelpjaadoor", sum := "d5f9acd44569ee587d7a9cba40e78a7fdd17a6847d862629a2aa86da4166a35f", func := "loop.example/g01265/laws.FnExactChancesFor", spec := "fnExactChancesFor", inPlace := ["internal/bytealg.IndexByteString", "internal/bytealg.IndexString"], named := ["loop.example/g01265/impl.never", "loop.example/g01265/impl.digitBars", "internal/bytealg.MaxLen"], apart := false, laid := [("loop.example/g01265/impl.digitBars", laid_loop_example_g01265_impl_digitBars), ("loop.example/g01265/impl.never", laid_loop_example_g01265_impl_never)] }
def FnExactChancesForSaid : Prop := fnExactChancesForRow.holds Tryd.pinned (OpenSpec.ofChange fnExactChancesForSpec)

/-- ITS FALSE NEIGHBOUR: 'it returns false'. Refute it at one input. -/
def fnExactChancesForWrong : ChangeSpec := { name := "fnExactChancesFor", vars := ["loop.example/g01265/impl.never", "loop.example/g01265/impl.digitBars"], fn := fun _ => fun
  | [d1, d2, d3, g1, g2] => { results := [.lit (.bool false)], args := [d1, d2, d3], vars := [g1, g2] }
  | _ => none }
def FnExactChancesForWrongFalsely : Prop := fnExactChancesForRow.holds Tryd.pinned (OpenSpec.ofChange fnExactChancesForWrong)

/-- 'laws.FnExactMeanBars': WHATEVER THE INPUT: true; the input reads as it did. -/
def fnExactMeanBarsSpec : ChangeSpec := { name := "fnExactMeanBars", vars := ["loop.example/g01265/impl.digitBars"], fn := fun _ => fun
  | [d, g1] => { results := [.lit (.bool true)], args := [d], vars := [g1] }
  | _ => none }
def fnExactMeanBarsRow : OpenClaim := { program := "ytbddhdbieelpjaadoor", sum := "d5f9acd44569ee587d7a9cba40e78a7fdd17a6847d862629a2aa86da4166a35f", func := "loop.example/g01265/laws.FnExactMeanBars", spec := "fnExactMeanBars", inPlace := ["internal/bytealg.IndexByteString", "internal/bytealg.IndexString"], unfollowed := true, recurses := true, named := ["internal/strconv.uint64pow10", "math/bits.deBruijn32tab", "math/bits.deBruijn64tab", "loop.example/g01265/impl.digitBars", "internal/bytealg.MaxLen"], apart := false, laid := [("math/bits.deBruijn32tab", laid_math_bits_deBruijn32tab), ("math/bits.deBruijn64tab", laid_math_bits_deBruijn64tab), ("internal/strconv.uint64pow10", laid_internal_strconv_uint64pow10), ("loop.example/g01265/impl.digitBars", laid_loop_example_g01265_impl_digitBars)] }
def FnExactMeanBarsSaid : Prop := fnExactMeanBarsRow.holds Tryd.pinned (OpenSpec.ofChange fnExactMeanBarsSpec)

/-- ITS FALSE NEIGHBOUR: 'it returns false'. Refute it at one input. -/
def fnExactMeanBarsWrong : ChangeSpec := { name := "fnExactMeanBars", vars := ["loop.example/g01265/impl.digitBars"], fn := fun _ => fun
  | [d, g1] => { results := [.lit (.bool false)], args := [d], vars := [g1] }
  | _ => none }
def FnExactMeanBarsWrongFalsely : Prop := fnExactMeanBarsRow.holds Tryd.pinned (OpenSpec.ofChange fnExactMeanBarsWrong)

/-- 'laws.FnExactMeanImages': WHATEVER THE INPUT: true; the input reads as it did. -/
def fnExactMeanImagesSpec : ChangeSpec := { name := "fnExactMeanImages", vars := ["loop.example/g01265/impl.digitBars"], fn := fun _ => fun
  | [d, g1] => { results := [.lit (.bool true)], args := [d], vars := [g1] }
  | _ => none }
def fnExactMeanImagesRow : OpenClaim := { program := "ytbddhdbieelpjaadoor", sum := "d5f9acd44569ee587d7a9cba40e78a7fdd17a6847d862629a2aa86da4166a35f", func := "loop.example/g01265/laws.FnExactMeanImages", spec := "fnExactMeanImages", inPlace := ["internal/bytealg.IndexByteString", "internal/bytealg.IndexString"], unfollowed := true, recurses := true, named := ["loop.example/g01265/impl.digitBars", "internal/bytealg.MaxLen"], apart := false, laid := [("loop.example/g01265/impl.digitBars", laid_loop_example_g01265_impl_digitBars)] }
def FnExactMeanImagesSaid : Prop := fnExactMeanImagesRow.holds Tryd.pinned (OpenSpec.ofChange fnExactMeanImagesSpec)

/-- ITS FALSE NEIGHBOUR: 'it returns false'. Refute it at one input. -/
def fnExactMeanImagesWrong : ChangeSpec := { name := "fnExactMeanImages", vars := ["loop.example/g01265/impl.digitBars"], fn := fun _ => fun
  | [d, g1] => { results := [.lit (.bool false)], args := [d], vars := [g1] }
  | _ => none }
def FnExactMeanImagesWrongFalsely : Prop := fnExactMeanImagesRow.holds Tryd.pinned (OpenSpec.ofChange fnExactMeanImagesWrong)

/-- 'laws.FnExactChanceTold': WHATEVER THE INPUT: true; the input reads as it did. -/
def fnExactChanceToldSpec : ChangeSpec := { name := "fnExactChanceTold", vars := ["loop.example/g01265/impl.digitBars"], fn := fun _ => fun
  | [d, g1] => { results := [.lit (.bool true)], args := [d], vars := [g1] }
  | _ => none }
def fnExactChanceToldRow : OpenClaim := { program := "ytbddhdbieelpjaadoor", sum := "d5f9acd44569ee587d7a9cba40e78a7fdd17a6847d862629a2aa86da4166a35f", func := "loop.example/g01265/laws.FnExactChanceTold", spec := "fnExactChanceTold", inPlace := ["internal/bytealg.IndexByteString", "internal/bytealg.IndexString"], unfollowed := true, recurses := true, named := ["loop.example/g01265/impl.digitBars", "internal/bytealg.MaxLen"], apart := false, laid := [("loop.example/g01265/impl.digitBars", laid_loop_example_g01265_impl_digitBars)] }
def FnExactChanceToldSaid : Prop := fnExactChanceToldRow.holds Tryd.pinned (OpenSpec.ofChange fnExactChanceToldSpec)

/-- ITS FALSE NEIGHBOUR: 'it returns false'. Refute it at one input. -/
def fnExactChanceToldWrong : ChangeSpec := { name := "fnExactChanceTold", vars := ["loop.example/g01265/impl.digitBars"], fn := fun _ => fun
  | [d, g1] => { results := [.lit (.bool false)], args := [d], vars := [g1] }
  | _ => none }
def FnExactChanceToldWrongFalsely : Prop := fnExactChanceToldRow.holds Tryd.pinned (OpenSpec.ofChange fnExactChanceToldWrong)

/-- 'laws.FnExactChanceHarmless': WHATEVER THE INPUT: true; the input reads as it did. -/
def fnExactChanceHarmlessSpec : ChangeSpec := { name := "fnExactChanceHarmless", vars := ["loop.example/g01265/impl.digitBars"], fn := fun _ => fun
  | [d, g1] => { results := [.lit (.bool true)], args := [d], vars := [g1] }
  | _ => none }
def fnExactChanceHarmlessRow : OpenClaim := { program := "ytbddhdbieelpjaadoor", sum := "d5f9acd44569ee587d7a9cba40e78a7fdd17a6847d862629a2aa86da4166a35f", func := "loop.example/g01265/laws.FnExactChanceHarmless", spec := "fnExactChanceHarmless", inPlace := ["internal/bytealg.IndexByteString", "internal/bytealg.IndexString"], unfollowed := true, recurses := true, named := ["loop.example/g01265/impl.digitBars", "internal/bytealg.MaxLen"], apart := false, laid := [("loop.example/g01265/impl.digitBars", laid_loop_example_g01265_impl_digitBars)] }
def FnExactChanceHarmlessSaid : Prop := fnExactChanceHarmlessRow.holds Tryd.pinned (OpenSpec.ofChange fnExactChanceHarmlessSpec)

/-- ITS FALSE NEIGHBOUR: 'it returns false'. Refute it at one input. -/
def fnExactChanceHarmlessWrong : ChangeSpec := { name := "fnExactChanceHarmless", vars := ["loop.example/g01265/impl.digitBars"], fn := fun _ => fun
  | [d, g1] => { results := [.lit (.bool false)], args := [d], vars := [g1] }
  | _ => none }
def FnExactChanceHarmlessWrongFalsely : Prop := fnExactChanceHarmlessRow.holds Tryd.pinned (OpenSpec.ofChange fnExactChanceHarmlessWrong)

/-- 'laws.FnExactChanceFull': WHATEVER THE INPUT: true; the input reads as it did. -/
def fnExactChanceFullSpec : ChangeSpec := { name := "fnExactChanceFull", vars := ["loop.example/g01265/impl.digitBars"], fn := fun _ => fun
  | [d, g1] => { results := [.lit (.bool true)], args := [d], vars := [g1] }
  | _ => none }
def fnExactChanceFullRow : OpenClaim := { program := "ytbddhdbieelpjaadoor", sum := "d5f9acd44569ee587d7a9cba40e78a7fdd17a6847d862629a2aa86da4166a35f", func := "loop.example/g01265/laws.FnExactChanceFull", spec := "fnExactChanceFull", inPlace := ["internal/bytealg.IndexByteString", "internal/bytealg.IndexString"], unfollowed := true, recurses := true, named := ["loop.example/g01265/impl.digitBars", "internal/bytealg.MaxLen"], apart := false, laid := [("loop.example/g01265/impl.digitBars", laid_loop_example_g01265_impl_digitBars)] }
def FnExactChanceFullSaid : Prop := fnExactChanceFullRow.holds Tryd.pinned (OpenSpec.ofChange fnExactChanceFullSpec)

/-- ITS FALSE NEIGHBOUR: 'it returns false'. Refute it at one input. -/
def fnExactChanceFullWrong : ChangeSpec := { name := "fnExactChanceFull", vars := ["loop.example/g01265/impl.digitBars"], fn := fun _ => fun
  | [d, g1] => { results := [.lit (.bool false)], args := [d], vars := [g1] }
  | _ => none }
def FnExactChanceFullWrongFalsely : Prop := fnExactChanceFullRow.holds Tryd.pinned (OpenSpec.ofChange fnExactChanceFullWrong)

/-- 'laws.FnExactMeanFound': WHATEVER THE INPUT: true; the input reads as it did. -/
def fnExactMeanFoundSpec : ChangeSpec := { name := "fnExactMeanFound", vars := ["loop.example/g01265/impl.digitBars"], fn := fun _ => fun
  | [d, g1] => { results := [.lit (.bool true)], args := [d], vars := [g1] }
  | _ => none }
def fnExactMeanFoundRow : OpenClaim := { program := "ytbddhdbieelpjaadoor", sum := "d5f9acd44569ee587d7a9cba40e78a7fdd17a6847d862629a2aa86da4166a35f", func := "loop.example/g01265/laws.FnExactMeanFound", spec := "fnExactMeanFound", inPlace := ["internal/bytealg.IndexByteString", "internal/bytealg.IndexString"], unfollowed := true, recurses := true, named := ["loop.example/g01265/impl.digitBars", "internal/bytealg.MaxLen"], apart := false, laid := [("loop.example/g01265/impl.digitBars", laid_loop_example_g01265_impl_digitBars)] }
def FnExactMeanFoundSaid : Prop := fnExactMeanFoundRow.holds Tryd.pinned (OpenSpec.ofChange fnExactMeanFoundSpec)

/-- ITS FALSE NEIGHBOUR: 'it returns false'. Refute it at one input. -/
def fnExactMeanFoundWrong : ChangeSpec := { name := "fnExactMeanFound", vars := ["loop.example/g01265/impl.digitBars"], fn := fun _ => fun
  | [d, g1] => { results := [.lit (.bool false)], args := [d], vars := [g1] }
  | _ => none }
def FnExactMeanFoundWrongFalsely : Prop := fnExactMeanFoundRow.holds Tryd.pinned (OpenSpec.ofChange fnExactMeanFoundWrong)

/-- 'laws.FnExactMeanChanges': WHATEVER THE INPUT: true; the input reads as it did. -/
def fnExactMeanChangesSpec : ChangeSpec := { name := "fnExactMeanChanges", vars := ["loop.example/g01265/impl.digitBars"], fn := fun _ => fun
  | [g1] => { results := [.lit (.bool true)], args := [], vars := [g1] }
  | _ => none }
def fnExactMeanChangesRow : OpenClaim := { program := "ytbddhdbieelpjaadoor", sum := "d5f9acd44569ee587d7a9cba40e78a7fdd17a6847d862629a2aa86da4166a35f", func := "loop.example/g01265/laws.FnExactMeanChanges", spec := "fnExactMeanChanges", inPlace := ["internal/bytealg.IndexByteString", "internal/bytealg.IndexString"], unfollowed := true, recurses := true, named := ["loop.example/g01265/impl.digitBars", "internal/bytealg.MaxLen"], apart := false, laid := [("loop.example/g01265/impl.digitBars", laid_loop_example_g01265_impl_digitBars)] }
def FnExactMeanChangesSaid : Prop := fnExactMeanChangesRow.holds Tryd.pinned (OpenSpec.ofChange fnExactMeanChangesSpec)

/-- ITS FALSE NEIGHBOUR: 'it returns false'. Refute it at one input. -/
def fnExactMeanChangesWrong : ChangeSpec := { name := "fnExactMeanChanges", vars := ["loop.example/g01265/impl.digitBars"], fn := fun _ => fun
  | [g1] => { results := [.lit (.bool false)], args := [], vars := [g1] }
  | _ => none }
def FnExactMeanChangesWrongFalsely : Prop := fnExactMeanChangesRow.holds Tryd.pinned (OpenSpec.ofChange fnExactMeanChangesWrong)

/-- 'laws.FnExactChanceSameDigit': WHATEVER THE INPUT: true; the input reads as it did. -/
def fnExactChanceSameDigitSpec : ChangeSpec := { name := "fnExactChanceSameDigit", vars := ["loop.example/g01265/impl.digitBars"], fn := fun _ => fun
  | [d, g1] => { results := [.lit (.bool true)], args := [d], vars := [g1] }
  | _ => none }
def fnExactChanceSameDigitRow : OpenClaim := { program := "ytbddhdbieelpjaadoor", sum := "d5f9acd44569ee587d7a9cba40e78a7fdd17a6847d862629a2aa86da4166a35f", func := "loop.example/g01265/laws.FnExactChanceSameDigit", spec := "fnExactChanceSameDigit", inPlace := ["internal/bytealg.IndexByteString", "internal/bytealg.IndexString"], unfollowed := true, recurses := true, named := ["loop.example/g01265/impl.digitBars", "internal/bytealg.MaxLen"], apart := false, laid := [("loop.example/g01265/impl.digitBars", laid_loop_example_g01265_impl_digitBars)] }
def FnExactChanceSameDigitSaid : Prop := fnExactChanceSameDigitRow.holds Tryd.pinned (OpenSpec.ofChange fnExactChanceSameDigitSpec)

/-- ITS FALSE NEIGHBOUR: 'it returns false'. Refute it at one input. -/
def fnExactChanceSameDigitWrong : ChangeSpec := { name := "fnExactChanceSameDigit", vars := ["loop.example/g01265/impl.digitBars"], fn := fun _ => fun
  | [d, g1] => { results := [.lit (.bool false)], args := [d], vars := [g1] }
  | _ => none }
def FnExactChanceSameDigitWrongFalsely : Prop := fnExactChanceSameDigitRow.holds Tryd.pinned (OpenSpec.ofChange fnExactChanceSameDigitWrong)

/- THE SECOND FORM. 'bulk': how many values and letters a reading holds, each counted each time it is reached (what is shared counts as often as it is met; a slice's spare places count too). A statement '..UptoSaid' is the law's where the arguments, and the package variables that the reading takes, are together of bulk at most 1048576: NARROWER than '..Said'. Prove '..Said' where nothing that the law and all that it calls make is longer than what came in: it says more and counts as full. Else prove '..UptoSaid'. A law counts once. -/
mutual
def uptoBulk {H : Type} : DataW H → Nat
  | .lit (.string bytes) => bytes.length + 1
  | .lit _ => 1
  | .nil => 1
  | .ptr d => uptoBulk d + 1
  | .slice elems spare => uptoBulkAll elems + uptoBulkAll spare + 1
  | .agg parts => uptoBulkAll parts + 1
  | .iface _ d => uptoBulk d + 1
  | .map entries => uptoBulkEntries entries + 1
  | .held _ => 1
def uptoBulkAll {H : Type} : List (DataW H) → Nat
  | [] => 0
  | d :: r => uptoBulk d + uptoBulkAll r
def uptoBulkEntries {H : Type} : List (Lit × DataW H) → Nat
  | [] => 0
  | x :: r => uptoBulkEntry x + uptoBulkEntries r
def uptoBulkEntry {H : Type} : Lit × DataW H → Nat
  | (.string bytes, d) => bytes.length + uptoBulk d + 1
  | (_, d) => uptoBulk d + 1
 end
def uptoSmall : (H : Type) → List (DataW H) → Bool := fun _ ds => decide (uptoBulkAll ds ≤ 1048576)
def OpenSpec.upto (s : _root_.Go.ChangeSpec) : _root_.Go.OpenSpec := { _root_.Go.OpenSpec.ofChange s with cond := some uptoSmall }

/-- 'laws.FnFlicker', WHERE WHAT IT READS IS OF BULK AT MOST 1048576: true; the input reads as it did. -/
def fnFlickerUptoRow : OpenClaim := { program := "ytbddhdbieelpjaadoor", sum := "d5f9acd44569ee587d7a9cba40e78a7fdd17a6847d862629a2aa86da4166a35f", func := "loop.example/g01265/laws.FnFlicker", spec := "fnFlicker", inPlace := ["internal/bytealg.IndexByteString", "internal/bytealg.IndexString"], named := ["loop.example/g01265/impl.digitBars", "loop.example/g01265/impl.never", "internal/bytealg.MaxLen"], apart := false, laid := [("loop.example/g01265/impl.digitBars", laid_loop_example_g01265_impl_digitBars), ("loop.example/g01265/impl.never", laid_loop_example_g01265_impl_never)], narrowed := true }
def FnFlickerUptoSaid : Prop := fnFlickerUptoRow.holds Tryd.pinned (OpenSpec.upto fnFlickerSpec)

/-- 'laws.FnExactChanceReadAs', WHERE WHAT IT READS IS OF BULK AT MOST 1048576: true; the input reads as it did. -/
def fnExactChanceReadAsUptoRow : OpenClaim := { program := "ytbddhdbieelpjaadoor", sum := "d5f9acd44569ee587d7a9cba40e78a7fdd17a6847d862629a2aa86da4166a35f", func := "loop.example/g01265/laws.FnExactChanceReadAs", spec := "fnExactChanceReadAs", inPlace := ["internal/bytealg.IndexByteString", "internal/bytealg.IndexString"], named := ["loop.example/g01265/impl.digitBars", "internal/bytealg.MaxLen"], apart := false, laid := [("loop.example/g01265/impl.digitBars", laid_loop_example_g01265_impl_digitBars)], narrowed := true }
def FnExactChanceReadAsUptoSaid : Prop := fnExactChanceReadAsUptoRow.holds Tryd.pinned (OpenSpec.upto fnExactChanceReadAsSpec)

/-- 'laws.FnExactChanceNoDigit', WHERE WHAT IT READS IS OF BULK AT MOST 1048576: true; the input reads as it did. -/
def fnExactChanceNoDigitUptoRow : OpenClaim := { program := "ytbddhdbieelpjaadoor", sum := "d5f9acd44569ee587d7a9cba40e78a7fdd17a6847d862629a2aa86da4166a35f", func := "loop.example/g01265/laws.FnExactChanceNoDigit", spec := "fnExactChanceNoDigit", inPlace := ["internal/bytealg.IndexByteString", "internal/bytealg.IndexString"], named := ["loop.example/g01265/impl.digitBars", "loop.example/g01265/impl.never", "internal/bytealg.MaxLen"], apart := false, laid := [("loop.example/g01265/impl.digitBars", laid_loop_example_g01265_impl_digitBars), ("loop.example/g01265/impl.never", laid_loop_example_g01265_impl_never)], narrowed := true }
def FnExactChanceNoDigitUptoSaid : Prop := fnExactChanceNoDigitUptoRow.holds Tryd.pinned (OpenSpec.upto fnExactChanceNoDigitSpec)

/-- 'laws.FnExactChancesFor', WHERE WHAT IT READS IS OF BULK AT MOST 1048576: true; the input reads as it did. -/
def fnExactChancesForUptoRow : OpenClaim := { program := "ytbddhdbieelpjaadoor", sum := "d5f9acd44569ee587d7a9cba40e78a7fdd17a6847d862629a2aa86da4166a35f", func := "loop.example/g01265/laws.FnExactChancesFor", spec := "fnExactChancesFor", inPlace := ["internal/bytealg.IndexByteString", "internal/bytealg.IndexString"], named := ["loop.example/g01265/impl.never", "loop.example/g01265/impl.digitBars", "internal/bytealg.MaxLen"], apart := false, laid := [("loop.example/g01265/impl.digitBars", laid_loop_example_g01265_impl_digitBars), ("loop.example/g01265/impl.never", laid_loop_example_g01265_impl_never)], narrowed := true }
def FnExactChancesForUptoSaid : Prop := fnExactChancesForUptoRow.holds Tryd.pinned (OpenSpec.upto fnExactChancesForSpec)

/-- 'laws.FnExactMeanBars', WHERE WHAT IT READS IS OF BULK AT MOST 1048576: true; the input reads as it did. -/
def fnExactMeanBarsUptoRow : OpenClaim := { program := "ytbddhdbieelpjaadoor", sum := "d5f9acd44569ee587d7a9cba40e78a7fdd17a6847d862629a2aa86da4166a35f", func := "loop.example/g01265/laws.FnExactMeanBars", spec := "fnExactMeanBars", inPlace := ["internal/bytealg.IndexByteString", "internal/bytealg.IndexString"], unfollowed := true, recurses := true, named := ["internal/strconv.uint64pow10", "math/bits.deBruijn32tab", "math/bits.deBruijn64tab", "loop.example/g01265/impl.digitBars", "internal/bytealg.MaxLen"], apart := false, laid := [("math/bits.deBruijn32tab", laid_math_bits_deBruijn32tab), ("math/bits.deBruijn64tab", laid_math_bits_deBruijn64tab), ("internal/strconv.uint64pow10", laid_internal_strconv_uint64pow10), ("loop.example/g01265/impl.digitBars", laid_loop_example_g01265_impl_digitBars)], narrowed := true }
def FnExactMeanBarsUptoSaid : Prop := fnExactMeanBarsUptoRow.holds Tryd.pinned (OpenSpec.upto fnExactMeanBarsSpec)

/-- 'laws.FnExactMeanImages', WHERE WHAT IT READS IS OF BULK AT MOST 1048576: true; the input reads as it did. -/
def fnExactMeanImagesUptoRow : OpenClaim := { program := "ytbddhdbieelpjaadoor", sum := "d5f9acd44569ee587d7a9cba40e78a7fdd17a6847d862629a2aa86da4166a35f", func := "loop.example/g01265/laws.FnExactMeanImages", spec := "fnExactMeanImages", inPlace := ["internal/bytealg.IndexByteString", "internal/bytealg.IndexString"], unfollowed := true, recurses := true, named := ["loop.example/g01265/impl.digitBars", "internal/bytealg.MaxLen"], apart := false, laid := [("loop.example/g01265/impl.digitBars", laid_loop_example_g01265_impl_digitBars)], narrowed := true }
def FnExactMeanImagesUptoSaid : Prop := fnExactMeanImagesUptoRow.holds Tryd.pinned (OpenSpec.upto fnExactMeanImagesSpec)

/-- 'laws.FnExactChanceTold', WHERE WHAT IT READS IS OF BULK AT MOST 1048576: true; the input reads as it did. -/
def fnExactChanceToldUptoRow : OpenClaim := { program := "ytbddhdbieelpjaadoor", sum := "d5f9acd44569ee587d7a9cba40e78a7fdd17a6847d862629a2aa86da4166a35f", func := "loop.example/g01265/laws.FnExactChanceTold", spec := "fnExactChanceTold", inPlace := ["internal/bytealg.IndexByteString", "internal/bytealg.IndexString"], unfollowed := true, recurses := true, named := ["loop.example/g01265/impl.digitBars", "internal/bytealg.MaxLen"], apart := false, laid := [("loop.example/g01265/impl.digitBars", laid_loop_example_g01265_impl_digitBars)], narrowed := true }
def FnExactChanceToldUptoSaid : Prop := fnExactChanceToldUptoRow.holds Tryd.pinned (OpenSpec.upto fnExactChanceToldSpec)

/-- 'laws.FnExactChanceHarmless', WHERE WHAT IT READS IS OF BULK AT MOST 1048576: true; the input reads as it did. -/
def fnExactChanceHarmlessUptoRow : OpenClaim := { program := "ytbddhdbieelpjaadoor", sum := "d5f9acd44569ee587d7a9cba40e78a7fdd17a6847d862629a2aa86da4166a35f", func := "loop.example/g01265/laws.FnExactChanceHarmless", spec := "fnExactChanceHarmless", inPlace := ["internal/bytealg.IndexByteString", "internal/bytealg.IndexString"], unfollowed := true, recurses := true, named := ["loop.example/g01265/impl.digitBars", "internal/bytealg.MaxLen"], apart := false, laid := [("loop.example/g01265/impl.digitBars", laid_loop_example_g01265_impl_digitBars)], narrowed := true }
def FnExactChanceHarmlessUptoSaid : Prop := fnExactChanceHarmlessUptoRow.holds Tryd.pinned (OpenSpec.upto fnExactChanceHarmlessSpec)

/-- 'laws.FnExactChanceFull', WHERE WHAT IT READS IS OF BULK AT MOST 1048576: true; the input reads as it did. -/
def fnExactChanceFullUptoRow : OpenClaim := { program := "ytbddhdbieelpjaadoor", sum := "d5f9acd44569ee587d7a9cba40e78a7fdd17a6847d862629a2aa86da4166a35f", func := "loop.example/g01265/laws.FnExactChanceFull", spec := "fnExactChanceFull", inPlace := ["internal/bytealg.IndexByteString", "internal/bytealg.IndexString"], unfollowed := true, recurses := true, named := ["loop.example/g01265/impl.digitBars", "internal/bytealg.MaxLen"], apart := false, laid := [("loop.example/g01265/impl.digitBars", laid_loop_example_g01265_impl_digitBars)], narrowed := true }
def FnExactChanceFullUptoSaid : Prop := fnExactChanceFullUptoRow.holds Tryd.pinned (OpenSpec.upto fnExactChanceFullSpec)

/-- 'laws.FnExactMeanFound', WHERE WHAT IT READS IS OF BULK AT MOST 1048576: true; the input reads as it did. -/
def fnExactMeanFoundUptoRow : OpenClaim := { program := "ytbddhdbieelpjaadoor", sum := "d5f9acd44569ee587d7a9cba40e78a7fdd17a6847d862629a2aa86da4166a35f", func := "loop.example/g01265/laws.FnExactMeanFound", spec := "fnExactMeanFound", inPlace := ["internal/bytealg.IndexByteString", "internal/bytealg.IndexString"], unfollowed := true, recurses := true, named := ["loop.example/g01265/impl.digitBars", "internal/bytealg.MaxLen"], apart := false, laid := [("loop.example/g01265/impl.digitBars", laid_loop_example_g01265_impl_digitBars)], narrowed := true }
def FnExactMeanFoundUptoSaid : Prop := fnExactMeanFoundUptoRow.holds Tryd.pinned (OpenSpec.upto fnExactMeanFoundSpec)

/-- 'laws.FnExactMeanChanges', WHERE WHAT IT READS IS OF BULK AT MOST 1048576: true; the input reads as it did. -/
def fnExactMeanChangesUptoRow : OpenClaim := { program := "ytbddhdbieelpjaadoor", sum := "d5f9acd44569ee587d7a9cba40e78a7fdd17a6847d862629a2aa86da4166a35f", func := "loop.example/g01265/laws.FnExactMeanChanges", spec := "fnExactMeanChanges", inPlace := ["internal/bytealg.IndexByteString", "internal/bytealg.IndexString"], unfollowed := true, recurses := true, named := ["loop.example/g01265/impl.digitBars", "internal/bytealg.MaxLen"], apart := false, laid := [("loop.example/g01265/impl.digitBars", laid_loop_example_g01265_impl_digitBars)], narrowed := true }
def FnExactMeanChangesUptoSaid : Prop := fnExactMeanChangesUptoRow.holds Tryd.pinned (OpenSpec.upto fnExactMeanChangesSpec)

/-- 'laws.FnExactChanceSameDigit', WHERE WHAT IT READS IS OF BULK AT MOST 1048576: true; the input reads as it did. -/
def fnExactChanceSameDigitUptoRow : OpenClaim := { program := "ytbddhdbieelpjaadoor", sum := "d5f9acd44569ee587d7a9cba40e78a7fdd17a6847d862629a2aa86da4166a35f", func := "loop.example/g01265/laws.FnExactChanceSameDigit", spec := "fnExactChanceSameDigit", inPlace := ["internal/bytealg.IndexByteString", "internal/bytealg.IndexString"], unfollowed := true, recurses := true, named := ["loop.example/g01265/impl.digitBars", "internal/bytealg.MaxLen"], apart := false, laid := [("loop.example/g01265/impl.digitBars", laid_loop_example_g01265_impl_digitBars)], narrowed := true }
def FnExactChanceSameDigitUptoSaid : Prop := fnExactChanceSameDigitUptoRow.holds Tryd.pinned (OpenSpec.upto fnExactChanceSameDigitSpec)

end Rows
end Go.Proofs.YtbddhdbieelpjaaDoor
