/-
  No cell of these rows narrows 'for every input' (looked for: loops, veiled, ifaces, maps, wideKeys, modest, calm, conditions, laid).
  DERIVED. THE GIVEN ROWS OF THIS SEAT. 12 by the template 'for every input the law returns true; each argument reads behind the call as it read before'; 0 by the template 'total and deterministic' (their statements: YtlmmjegbnmolcaaTotals.lean).
  GIVEN WITH THE SEED: the statements are not yours to turn. If you find one false, say at which input.
  Laid BY PROGRAM, IN A SANDBOX (cutbox-rows.mjs): the forced cells as the released guide's own fill.sh prints them over the translation bad63f016129736f… (all of the seat's roots in one cut). By AI agents, Wed Nov 11 2026. No macro, syntax, notation, axiom, sorry.
-/
import Derived.Test.YtlmmjegbnmolcaaChecked
import GoSem.Claim
import GoSem.ClaimJoined
import GoSem.ClaimMapViews
import Derived.JoinedTies
import Derived.KernelRfl
namespace Go.Proofs.Ytlmmjegbnmolcaa
/- THE CELL 'sum', in the pinned program and in every row, IS THE sha256 OF THE DUMP (.gsa) THAT YtlmmjegbnmolcaaProg.lean LOADS. Nothing in Lean hashes anything: it is a label: what it is worth is what the hold of that sum in a sandbox is worth. -/
noncomputable def Try.pinned : Pinned := { name := "ytlmmjegbnmolcaa", sum := "bad63f016129736f6f4eed7de9bce3978e485600cc6c0a90dce9bb3eec2a4c4d", checked := Try.checked }
namespace Rows
def none {H : Type} : Left H := { results := [], args := [] }

/-- 'laws.FnFrames': WHATEVER THE INPUT: true; the input reads as it did. -/
def fnFramesSpec : ChangeSpec := { name := "fnFrames", fn := fun _ => fun
  | [d] => { results := [.lit (.bool true)], args := [d] }
  | _ => none }
def fnFramesRow : OpenClaim := { program := "ytlmmjegbnmolcaa", sum := "bad63f016129736f6f4eed7de9bce3978e485600cc6c0a90dce9bb3eec2a4c4d", func := "loop.example/g01265/laws.FnFrames", spec := "fnFrames", unfollowed := true, recurses := true, apart := false }
def FnFramesSaid : Prop := fnFramesRow.holds Try.pinned (OpenSpec.ofChange fnFramesSpec)

/-- ITS FALSE NEIGHBOUR: 'it returns false'. Refute it at one input. -/
def fnFramesWrong : ChangeSpec := { name := "fnFrames", fn := fun _ => fun
  | [d] => { results := [.lit (.bool false)], args := [d] }
  | _ => none }
def FnFramesWrongFalsely : Prop := fnFramesRow.holds Try.pinned (OpenSpec.ofChange fnFramesWrong)

/-- 'laws.FnSlots': WHATEVER THE INPUT: true; the input reads as it did. -/
def fnSlotsSpec : ChangeSpec := { name := "fnSlots", fn := fun _ => fun
  | [d] => { results := [.lit (.bool true)], args := [d] }
  | _ => none }
def fnSlotsRow : OpenClaim := { program := "ytlmmjegbnmolcaa", sum := "bad63f016129736f6f4eed7de9bce3978e485600cc6c0a90dce9bb3eec2a4c4d", func := "loop.example/g01265/laws.FnSlots", spec := "fnSlots", unfollowed := true, recurses := true, apart := false }
def FnSlotsSaid : Prop := fnSlotsRow.holds Try.pinned (OpenSpec.ofChange fnSlotsSpec)

/-- ITS FALSE NEIGHBOUR: 'it returns false'. Refute it at one input. -/
def fnSlotsWrong : ChangeSpec := { name := "fnSlots", fn := fun _ => fun
  | [d] => { results := [.lit (.bool false)], args := [d] }
  | _ => none }
def FnSlotsWrongFalsely : Prop := fnSlotsRow.holds Try.pinned (OpenSpec.ofChange fnSlotsWrong)

/-- 'laws.FnExactIsFrame': WHATEVER THE INPUT: true; the input reads as it did. -/
def fnExactIsFrameSpec : ChangeSpec := { name := "fnExactIsFrame", fn := fun _ => fun
  | [d1, d2] => { results := [.lit (.bool true)], args := [d1, d2] }
  | _ => none }
def fnExactIsFrameRow : OpenClaim := { program := "ytlmmjegbnmolcaa", sum := "bad63f016129736f6f4eed7de9bce3978e485600cc6c0a90dce9bb3eec2a4c4d", func := "loop.example/g01265/laws.FnExactIsFrame", spec := "fnExactIsFrame", unfollowed := true, recurses := true, apart := false }
def FnExactIsFrameSaid : Prop := fnExactIsFrameRow.holds Try.pinned (OpenSpec.ofChange fnExactIsFrameSpec)

/-- ITS FALSE NEIGHBOUR: 'it returns false'. Refute it at one input. -/
def fnExactIsFrameWrong : ChangeSpec := { name := "fnExactIsFrame", fn := fun _ => fun
  | [d1, d2] => { results := [.lit (.bool false)], args := [d1, d2] }
  | _ => none }
def FnExactIsFrameWrongFalsely : Prop := fnExactIsFrameRow.holds Try.pinned (OpenSpec.ofChange fnExactIsFrameWrong)

/-- 'laws.FnExactSeenOf': WHATEVER THE INPUT: true; the input reads as it did. -/
def fnExactSeenOfSpec : ChangeSpec := { name := "fnExactSeenOf", fn := fun _ => fun
  | [d1, d2] => { results := [.lit (.bool true)], args := [d1, d2] }
  | _ => none }
def fnExactSeenOfRow : OpenClaim := { program := "ytlmmjegbnmolcaa", sum := "bad63f016129736f6f4eed7de9bce3978e485600cc6c0a90dce9bb3eec2a4c4d", func := "loop.example/g01265/laws.FnExactSeenOf", spec := "fnExactSeenOf", unfollowed := true, recurses := true, apart := false }
def FnExactSeenOfSaid : Prop := fnExactSeenOfRow.holds Try.pinned (OpenSpec.ofChange fnExactSeenOfSpec)

/-- ITS FALSE NEIGHBOUR: 'it returns false'. Refute it at one input. -/
def fnExactSeenOfWrong : ChangeSpec := { name := "fnExactSeenOf", fn := fun _ => fun
  | [d1, d2] => { results := [.lit (.bool false)], args := [d1, d2] }
  | _ => none }
def FnExactSeenOfWrongFalsely : Prop := fnExactSeenOfRow.holds Try.pinned (OpenSpec.ofChange fnExactSeenOfWrong)

/-- 'laws.FnExactPlainFrame': WHATEVER THE INPUT: true; the input reads as it did. -/
def fnExactPlainFrameSpec : ChangeSpec := { name := "fnExactPlainFrame", fn := fun _ => fun
  | [d] => { results := [.lit (.bool true)], args := [d] }
  | _ => none }
def fnExactPlainFrameRow : OpenClaim := { program := "ytlmmjegbnmolcaa", sum := "bad63f016129736f6f4eed7de9bce3978e485600cc6c0a90dce9bb3eec2a4c4d", func := "loop.example/g01265/laws.FnExactPlainFrame", spec := "fnExactPlainFrame", unfollowed := true, recurses := true, apart := false }
def FnExactPlainFrameSaid : Prop := fnExactPlainFrameRow.holds Try.pinned (OpenSpec.ofChange fnExactPlainFrameSpec)

/-- ITS FALSE NEIGHBOUR: 'it returns false'. Refute it at one input. -/
def fnExactPlainFrameWrong : ChangeSpec := { name := "fnExactPlainFrame", fn := fun _ => fun
  | [d] => { results := [.lit (.bool false)], args := [d] }
  | _ => none }
def FnExactPlainFrameWrongFalsely : Prop := fnExactPlainFrameRow.holds Try.pinned (OpenSpec.ofChange fnExactPlainFrameWrong)

/-- 'laws.FnExactLeastSlots': WHATEVER THE INPUT: true; the input reads as it did. -/
def fnExactLeastSlotsSpec : ChangeSpec := { name := "fnExactLeastSlots", fn := fun _ => fun
  | [d] => { results := [.lit (.bool true)], args := [d] }
  | _ => none }
def fnExactLeastSlotsRow : OpenClaim := { program := "ytlmmjegbnmolcaa", sum := "bad63f016129736f6f4eed7de9bce3978e485600cc6c0a90dce9bb3eec2a4c4d", func := "loop.example/g01265/laws.FnExactLeastSlots", spec := "fnExactLeastSlots", unfollowed := true, recurses := true, apart := false }
def FnExactLeastSlotsSaid : Prop := fnExactLeastSlotsRow.holds Try.pinned (OpenSpec.ofChange fnExactLeastSlotsSpec)

/-- ITS FALSE NEIGHBOUR: 'it returns false'. Refute it at one input. -/
def fnExactLeastSlotsWrong : ChangeSpec := { name := "fnExactLeastSlots", fn := fun _ => fun
  | [d] => { results := [.lit (.bool false)], args := [d] }
  | _ => none }
def FnExactLeastSlotsWrongFalsely : Prop := fnExactLeastSlotsRow.holds Try.pinned (OpenSpec.ofChange fnExactLeastSlotsWrong)

/-- 'laws.FnExactFullBars': WHATEVER THE INPUT: true; the input reads as it did. -/
def fnExactFullBarsSpec : ChangeSpec := { name := "fnExactFullBars", fn := fun _ => fun
  | [d1, d2] => { results := [.lit (.bool true)], args := [d1, d2] }
  | _ => none }
def fnExactFullBarsRow : OpenClaim := { program := "ytlmmjegbnmolcaa", sum := "bad63f016129736f6f4eed7de9bce3978e485600cc6c0a90dce9bb3eec2a4c4d", func := "loop.example/g01265/laws.FnExactFullBars", spec := "fnExactFullBars", unfollowed := true, recurses := true, apart := false }
def FnExactFullBarsSaid : Prop := fnExactFullBarsRow.holds Try.pinned (OpenSpec.ofChange fnExactFullBarsSpec)

/-- ITS FALSE NEIGHBOUR: 'it returns false'. Refute it at one input. -/
def fnExactFullBarsWrong : ChangeSpec := { name := "fnExactFullBars", fn := fun _ => fun
  | [d1, d2] => { results := [.lit (.bool false)], args := [d1, d2] }
  | _ => none }
def FnExactFullBarsWrongFalsely : Prop := fnExactFullBarsRow.holds Try.pinned (OpenSpec.ofChange fnExactFullBarsWrong)

/-- 'laws.FnExactDutyOf': WHATEVER THE INPUT: true; the input reads as it did. -/
def fnExactDutyOfSpec : ChangeSpec := { name := "fnExactDutyOf", fn := fun _ => fun
  | [d1, d2] => { results := [.lit (.bool true)], args := [d1, d2] }
  | _ => none }
def fnExactDutyOfRow : OpenClaim := { program := "ytlmmjegbnmolcaa", sum := "bad63f016129736f6f4eed7de9bce3978e485600cc6c0a90dce9bb3eec2a4c4d", func := "loop.example/g01265/laws.FnExactDutyOf", spec := "fnExactDutyOf", unfollowed := true, recurses := true, apart := false }
def FnExactDutyOfSaid : Prop := fnExactDutyOfRow.holds Try.pinned (OpenSpec.ofChange fnExactDutyOfSpec)

/-- ITS FALSE NEIGHBOUR: 'it returns false'. Refute it at one input. -/
def fnExactDutyOfWrong : ChangeSpec := { name := "fnExactDutyOf", fn := fun _ => fun
  | [d1, d2] => { results := [.lit (.bool false)], args := [d1, d2] }
  | _ => none }
def FnExactDutyOfWrongFalsely : Prop := fnExactDutyOfRow.holds Try.pinned (OpenSpec.ofChange fnExactDutyOfWrong)

/-- 'laws.FnExactGhostsOf': WHATEVER THE INPUT: true; the input reads as it did. -/
def fnExactGhostsOfSpec : ChangeSpec := { name := "fnExactGhostsOf", fn := fun _ => fun
  | [d1, d2] => { results := [.lit (.bool true)], args := [d1, d2] }
  | _ => none }
def fnExactGhostsOfRow : OpenClaim := { program := "ytlmmjegbnmolcaa", sum := "bad63f016129736f6f4eed7de9bce3978e485600cc6c0a90dce9bb3eec2a4c4d", func := "loop.example/g01265/laws.FnExactGhostsOf", spec := "fnExactGhostsOf", unfollowed := true, recurses := true, apart := false }
def FnExactGhostsOfSaid : Prop := fnExactGhostsOfRow.holds Try.pinned (OpenSpec.ofChange fnExactGhostsOfSpec)

/-- ITS FALSE NEIGHBOUR: 'it returns false'. Refute it at one input. -/
def fnExactGhostsOfWrong : ChangeSpec := { name := "fnExactGhostsOf", fn := fun _ => fun
  | [d1, d2] => { results := [.lit (.bool false)], args := [d1, d2] }
  | _ => none }
def FnExactGhostsOfWrongFalsely : Prop := fnExactGhostsOfRow.holds Try.pinned (OpenSpec.ofChange fnExactGhostsOfWrong)

/-- 'laws.FnExactWithBlanks': WHATEVER THE INPUT: true; the input reads as it did. -/
def fnExactWithBlanksSpec : ChangeSpec := { name := "fnExactWithBlanks", fn := fun _ => fun
  | [d1, d2] => { results := [.lit (.bool true)], args := [d1, d2] }
  | _ => none }
def fnExactWithBlanksRow : OpenClaim := { program := "ytlmmjegbnmolcaa", sum := "bad63f016129736f6f4eed7de9bce3978e485600cc6c0a90dce9bb3eec2a4c4d", func := "loop.example/g01265/laws.FnExactWithBlanks", spec := "fnExactWithBlanks", unfollowed := true, recurses := true, apart := false }
def FnExactWithBlanksSaid : Prop := fnExactWithBlanksRow.holds Try.pinned (OpenSpec.ofChange fnExactWithBlanksSpec)

/-- ITS FALSE NEIGHBOUR: 'it returns false'. Refute it at one input. -/
def fnExactWithBlanksWrong : ChangeSpec := { name := "fnExactWithBlanks", fn := fun _ => fun
  | [d1, d2] => { results := [.lit (.bool false)], args := [d1, d2] }
  | _ => none }
def FnExactWithBlanksWrongFalsely : Prop := fnExactWithBlanksRow.holds Try.pinned (OpenSpec.ofChange fnExactWithBlanksWrong)

/-- 'laws.FnExactVainSlots': WHATEVER THE INPUT: true; the input reads as it did. -/
def fnExactVainSlotsSpec : ChangeSpec := { name := "fnExactVainSlots", fn := fun _ => fun
  | [d1, d2] => { results := [.lit (.bool true)], args := [d1, d2] }
  | _ => none }
def fnExactVainSlotsRow : OpenClaim := { program := "ytlmmjegbnmolcaa", sum := "bad63f016129736f6f4eed7de9bce3978e485600cc6c0a90dce9bb3eec2a4c4d", func := "loop.example/g01265/laws.FnExactVainSlots", spec := "fnExactVainSlots", unfollowed := true, recurses := true, apart := false }
def FnExactVainSlotsSaid : Prop := fnExactVainSlotsRow.holds Try.pinned (OpenSpec.ofChange fnExactVainSlotsSpec)

/-- ITS FALSE NEIGHBOUR: 'it returns false'. Refute it at one input. -/
def fnExactVainSlotsWrong : ChangeSpec := { name := "fnExactVainSlots", fn := fun _ => fun
  | [d1, d2] => { results := [.lit (.bool false)], args := [d1, d2] }
  | _ => none }
def FnExactVainSlotsWrongFalsely : Prop := fnExactVainSlotsRow.holds Try.pinned (OpenSpec.ofChange fnExactVainSlotsWrong)

/-- 'laws.FnExactDropVain': WHATEVER THE INPUT: true; the input reads as it did. -/
def fnExactDropVainSpec : ChangeSpec := { name := "fnExactDropVain", fn := fun _ => fun
  | [d1, d2] => { results := [.lit (.bool true)], args := [d1, d2] }
  | _ => none }
def fnExactDropVainRow : OpenClaim := { program := "ytlmmjegbnmolcaa", sum := "bad63f016129736f6f4eed7de9bce3978e485600cc6c0a90dce9bb3eec2a4c4d", func := "loop.example/g01265/laws.FnExactDropVain", spec := "fnExactDropVain", unfollowed := true, recurses := true, apart := false }
def FnExactDropVainSaid : Prop := fnExactDropVainRow.holds Try.pinned (OpenSpec.ofChange fnExactDropVainSpec)

/-- ITS FALSE NEIGHBOUR: 'it returns false'. Refute it at one input. -/
def fnExactDropVainWrong : ChangeSpec := { name := "fnExactDropVain", fn := fun _ => fun
  | [d1, d2] => { results := [.lit (.bool false)], args := [d1, d2] }
  | _ => none }
def FnExactDropVainWrongFalsely : Prop := fnExactDropVainRow.holds Try.pinned (OpenSpec.ofChange fnExactDropVainWrong)

/- THE SECOND FORM. 'bulk': how many values and letters a reading holds, each counted each time it is reached (what is shared counts as often as it is met; a slice's spare places count too). A statement '..UptoSaid' is the law's where the arguments, and the package variables that the reading takes, are together of bulk at most 1048576: NARROWER than '..Said'. Prove '..Said' where nothing that the law and all that it calls make is longer than what came in: it says more and counts as full. Else prove '..UptoSaid'. A law counts once. -/
mutual
def uptoBulk {H : Type} : DataW H → Nat
  | .lit (.string bytes) => bytes.length + 1
  | .lit _ => 1
  | .nil => 1
  | .ptr d => uptoBulk d + 1
  | .slice elems spare => uptoBulkAll elems + uptoBulkAll spare + 1
  | .agg parts => uptoBulkAll parts + 1
  | .iface _ d => uptoBulk d + 1
  | .map entries => uptoBulkEntries entries + 1
  | .held _ => 1
def uptoBulkAll {H : Type} : List (DataW H) → Nat
  | [] => 0
  | d :: r => uptoBulk d + uptoBulkAll r
def uptoBulkEntries {H : Type} : List (Lit × DataW H) → Nat
  | [] => 0
  | x :: r => uptoBulkEntry x + uptoBulkEntries r
def uptoBulkEntry {H : Type} : Lit × DataW H → Nat
  | (.string bytes, d) => bytes.length + uptoBulk d + 1
  | (_, d) => uptoBulk d + 1
 end
def uptoSmall : (H : Type) → List (DataW H) → Bool := fun _ ds => decide (uptoBulkAll ds ≤ 1048576)
def OpenSpec.upto (s : _root_.Go.ChangeSpec) : _root_.Go.OpenSpec := { _root_.Go.OpenSpec.ofChange s with cond := some uptoSmall }

/-- 'laws.FnFrames', WHERE WHAT IT READS IS OF BULK AT MOST 1048576: true; the input reads as it did. -/
def fnFramesUptoRow : OpenClaim := { program := "ytlmmjegbnmolcaa", sum := "bad63f016129736f6f4eed7de9bce3978e485600cc6c0a90dce9bb3eec2a4c4d", func := "loop.example/g01265/laws.FnFrames", spec := "fnFrames", unfollowed := true, recurses := true, apart := false, narrowed := true }
def FnFramesUptoSaid : Prop := fnFramesUptoRow.holds Try.pinned (OpenSpec.upto fnFramesSpec)

/-- 'laws.FnSlots', WHERE WHAT IT READS IS OF BULK AT MOST 1048576: true; the input reads as it did. -/
def fnSlotsUptoRow : OpenClaim := { program := "ytlmmjegbnmolcaa", sum := "bad63f016129736f6f4eed7de9bce3978e485600cc6c0a90dce9bb3eec2a4c4d", func := "loop.example/g01265/laws.FnSlots", spec := "fnSlots", unfollowed := true, recurses := true, apart := false, narrowed := true }
def FnSlotsUptoSaid : Prop := fnSlotsUptoRow.holds Try.pinned (OpenSpec.upto fnSlotsSpec)

/-- 'laws.FnExactIsFrame', WHERE WHAT IT READS IS OF BULK AT MOST 1048576: true; the input reads as it did. -/
def fnExactIsFrameUptoRow : OpenClaim := { program := "ytlmmjegbnmolcaa", sum := "bad63f016129736f6f4eed7de9bce3978e485600cc6c0a90dce9bb3eec2a4c4d", func := "loop.example/g01265/laws.FnExactIsFrame", spec := "fnExactIsFrame", unfollowed := true, recurses := true, apart := false, narrowed := true }
def FnExactIsFrameUptoSaid : Prop := fnExactIsFrameUptoRow.holds Try.pinned (OpenSpec.upto fnExactIsFrameSpec)

/-- 'laws.FnExactSeenOf', WHERE WHAT IT READS IS OF BULK AT MOST 1048576: true; the input reads as it did. -/
def fnExactSeenOfUptoRow : OpenClaim := { program := "ytlmmjegbnmolcaa", sum := "bad63f016129736f6f4eed7de9bce3978e485600cc6c0a90dce9bb3eec2a4c4d", func := "loop.example/g01265/laws.FnExactSeenOf", spec := "fnExactSeenOf", unfollowed := true, recurses := true, apart := false, narrowed := true }
def FnExactSeenOfUptoSaid : Prop := fnExactSeenOfUptoRow.holds Try.pinned (OpenSpec.upto fnExactSeenOfSpec)

/-- 'laws.FnExactPlainFrame', WHERE WHAT IT READS IS OF BULK AT MOST 1048576: true; the input reads as it did. -/
def fnExactPlainFrameUptoRow : OpenClaim := { program := "ytlmmjegbnmolcaa", sum := "bad63f016129736f6f4eed7de9bce3978e485600cc6c0a90dce9bb3eec2a4c4d", func := "loop.example/g01265/laws.FnExactPlainFrame", spec := "fnExactPlainFrame", unfollowed := true, recurses := true, apart := false, narrowed := true }
def FnExactPlainFrameUptoSaid : Prop := fnExactPlainFrameUptoRow.holds Try.pinned (OpenSpec.upto fnExactPlainFrameSpec)

/-- 'laws.FnExactLeastSlots', WHERE WHAT IT READS IS OF BULK AT MOST 1048576: true; the input reads as it did. -/
def fnExactLeastSlotsUptoRow : OpenClaim := { program := "ytlmmjegbnmolcaa", sum := "bad63f016129736f6f4eed7de9bce3978e485600cc6c0a90dce9bb3eec2a4c4d", func := "loop.example/g01265/laws.FnExactLeastSlots", spec := "fnExactLeastSlots", unfollowed := true, recurses := true, apart := false, narrowed := true }
def FnExactLeastSlotsUptoSaid : Prop := fnExactLeastSlotsUptoRow.holds Try.pinned (OpenSpec.upto fnExactLeastSlotsSpec)

/-- 'laws.FnExactFullBars', WHERE WHAT IT READS IS OF BULK AT MOST 1048576: true; the input reads as it did. -/
def fnExactFullBarsUptoRow : OpenClaim := { program := "ytlmmjegbnmolcaa", sum := "bad63f016129736f6f4eed7de9bce3978e485600cc6c0a90dce9bb3eec2a4c4d", func := "loop.example/g01265/laws.FnExactFullBars", spec := "fnExactFullBars", unfollowed := true, recurses := true, apart := false, narrowed := true }
def FnExactFullBarsUptoSaid : Prop := fnExactFullBarsUptoRow.holds Try.pinned (OpenSpec.upto fnExactFullBarsSpec)

/-- 'laws.FnExactDutyOf', WHERE WHAT IT READS IS OF BULK AT MOST 1048576: true; the input reads as it did. -/
def fnExactDutyOfUptoRow : OpenClaim := { program := "ytlmmjegbnmolcaa", sum := "bad63f016129736f6f4eed7de9bce3978e485600cc6c0a90dce9bb3eec2a4c4d", func := "loop.example/g01265/laws.FnExactDutyOf", spec := "fnExactDutyOf", unfollowed := true, recurses := true, apart := false, narrowed := true }
def FnExactDutyOfUptoSaid : Prop := fnExactDutyOfUptoRow.holds Try.pinned (OpenSpec.upto fnExactDutyOfSpec)

/-- 'laws.FnExactGhostsOf', WHERE WHAT IT READS IS OF BULK AT MOST 1048576: true; the input reads as it did. -/
def fnExactGhostsOfUptoRow : OpenClaim := { program := "ytlmmjegbnmolcaa", sum := "bad63f016129736f6f4eed7de9bce3978e485600cc6c0a90dce9bb3eec2a4c4d", func := "loop.example/g01265/laws.FnExactGhostsOf", spec := "fnExactGhostsOf", unfollowed := true, recurses := true, apart := false, narrowed := true }
def FnExactGhostsOfUptoSaid : Prop := fnExactGhostsOfUptoRow.holds Try.pinned (OpenSpec.upto fnExactGhostsOfSpec)

/-- 'laws.FnExactWithBlanks', WHERE WHAT IT READS IS OF BULK AT MOST 1048576: true; the input reads as it did. -/
def fnExactWithBlanksUptoRow : OpenClaim := { program := "ytlmmjegbnmolcaa", sum := "bad63f016129736f6f4eed7de9bce3978e485600cc6c0a90dce9bb3eec2a4c4d", func := "loop.example/g01265/laws.FnExactWithBlanks", spec := "fnExactWithBlanks", unfollowed := true, recurses := true, apart := false, narrowed := true }
def FnExactWithBlanksUptoSaid : Prop := fnExactWithBlanksUptoRow.holds Try.pinned (OpenSpec.upto fnExactWithBlanksSpec)

/-- 'laws.FnExactVainSlots', WHERE WHAT IT READS IS OF BULK AT MOST 1048576: true; the input reads as it did. -/
def fnExactVainSlotsUptoRow : OpenClaim := { program := "ytlmmjegbnmolcaa", sum := "bad63f016129736f6f4eed7de9bce3978e485600cc6c0a90dce9bb3eec2a4c4d", func := "loop.example/g01265/laws.FnExactVainSlots", spec := "fnExactVainSlots", unfollowed := true, recurses := true, apart := false, narrowed := true }
def FnExactVainSlotsUptoSaid : Prop := fnExactVainSlotsUptoRow.holds Try.pinned (OpenSpec.upto fnExactVainSlotsSpec)

/-- 'laws.FnExactDropVain', WHERE WHAT IT READS IS OF BULK AT MOST 1048576: true; the input reads as it did. -/
def fnExactDropVainUptoRow : OpenClaim := { program := "ytlmmjegbnmolcaa", sum := "bad63f016129736f6f4eed7de9bce3978e485600cc6c0a90dce9bb3eec2a4c4d", func := "loop.example/g01265/laws.FnExactDropVain", spec := "fnExactDropVain", unfollowed := true, recurses := true, apart := false, narrowed := true }
def FnExactDropVainUptoSaid : Prop := fnExactDropVainUptoRow.holds Try.pinned (OpenSpec.upto fnExactDropVainSpec)

end Rows
end Go.Proofs.Ytlmmjegbnmolcaa
