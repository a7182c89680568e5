/-
  No cell of these rows narrows 'for every input' (looked for: loops, veiled, ifaces, maps, wideKeys, modest, calm, conditions, laid).
  DERIVED. THE GIVEN ROWS OF THIS SEAT. 9 by the template 'for every input the law returns true; each argument reads behind the call as it read before'; 0 by the template 'total and deterministic' (their statements: YtllpdnknaldbaaaTotals.lean).
  GIVEN WITH THE SEED: the statements are not yours to turn. If you find one false, say at which input.
  Laid BY PROGRAM, IN A SANDBOX (cutbox-rows.mjs): the forced cells as the released guide's own fill.sh prints them over the translation c33b94f164cbb53d… (all of the seat's roots in one cut). By AI agents, Wed Nov 11 2026. No macro, syntax, notation, axiom, sorry.
-/
import Derived.Test.YtllpdnknaldbaaaChecked
import GoSem.Claim
import GoSem.ClaimJoined
import GoSem.ClaimMapViews
import Derived.JoinedTies
import Derived.KernelRfl
namespace Go.Proofs.Ytllpdnknaldbaaa
/- THE CELL 'sum', in the pinned program and in every row, IS THE sha256 OF THE DUMP (.gsa) THAT YtllpdnknaldbaaaProg.lean LOADS. Nothing in Lean hashes anything: it is a label: what it is worth is what the hold of that sum in a sandbox is worth. -/
noncomputable def Try.pinned : Pinned := { name := "ytllpdnknaldbaaa", sum := "c33b94f164cbb53df2cca04a0fff3b3f249531573033ccdc1ebf9afba5da417d", checked := Try.checked }
namespace Rows
def none {H : Type} : Left H := { results := [], args := [] }

/-- 'laws.FnExactIsCell': WHATEVER THE INPUT: true; the input reads as it did. -/
def fnExactIsCellSpec : ChangeSpec := { name := "fnExactIsCell", fn := fun _ => fun
  | [d] => { results := [.lit (.bool true)], args := [d] }
  | _ => none }
def fnExactIsCellRow : OpenClaim := { program := "ytllpdnknaldbaaa", sum := "c33b94f164cbb53df2cca04a0fff3b3f249531573033ccdc1ebf9afba5da417d", func := "loop.example/g01265/laws.FnExactIsCell", spec := "fnExactIsCell", apart := false }
def FnExactIsCellSaid : Prop := fnExactIsCellRow.holds Try.pinned (OpenSpec.ofChange fnExactIsCellSpec)

/-- ITS FALSE NEIGHBOUR: 'it returns false'. Refute it at one input. -/
def fnExactIsCellWrong : ChangeSpec := { name := "fnExactIsCell", fn := fun _ => fun
  | [d] => { results := [.lit (.bool false)], args := [d] }
  | _ => none }
def FnExactIsCellWrongFalsely : Prop := fnExactIsCellRow.holds Try.pinned (OpenSpec.ofChange fnExactIsCellWrong)

/-- 'laws.FnExactIsRow': WHATEVER THE INPUT: true; the input reads as it did. -/
def fnExactIsRowSpec : ChangeSpec := { name := "fnExactIsRow", fn := fun _ => fun
  | [d] => { results := [.lit (.bool true)], args := [d] }
  | _ => none }
def fnExactIsRowRow : OpenClaim := { program := "ytllpdnknaldbaaa", sum := "c33b94f164cbb53df2cca04a0fff3b3f249531573033ccdc1ebf9afba5da417d", func := "loop.example/g01265/laws.FnExactIsRow", spec := "fnExactIsRow", apart := false }
def FnExactIsRowSaid : Prop := fnExactIsRowRow.holds Try.pinned (OpenSpec.ofChange fnExactIsRowSpec)

/-- ITS FALSE NEIGHBOUR: 'it returns false'. Refute it at one input. -/
def fnExactIsRowWrong : ChangeSpec := { name := "fnExactIsRow", fn := fun _ => fun
  | [d] => { results := [.lit (.bool false)], args := [d] }
  | _ => none }
def FnExactIsRowWrongFalsely : Prop := fnExactIsRowRow.holds Try.pinned (OpenSpec.ofChange fnExactIsRowWrong)

/-- 'laws.FnExactCountBars': WHATEVER THE INPUT: true; the input reads as it did. -/
def fnExactCountBarsSpec : ChangeSpec := { name := "fnExactCountBars", fn := fun _ => fun
  | [d] => { results := [.lit (.bool true)], args := [d] }
  | _ => none }
def fnExactCountBarsRow : OpenClaim := { program := "ytllpdnknaldbaaa", sum := "c33b94f164cbb53df2cca04a0fff3b3f249531573033ccdc1ebf9afba5da417d", func := "loop.example/g01265/laws.FnExactCountBars", spec := "fnExactCountBars", apart := false }
def FnExactCountBarsSaid : Prop := fnExactCountBarsRow.holds Try.pinned (OpenSpec.ofChange fnExactCountBarsSpec)

/-- ITS FALSE NEIGHBOUR: 'it returns false'. Refute it at one input. -/
def fnExactCountBarsWrong : ChangeSpec := { name := "fnExactCountBars", fn := fun _ => fun
  | [d] => { results := [.lit (.bool false)], args := [d] }
  | _ => none }
def FnExactCountBarsWrongFalsely : Prop := fnExactCountBarsRow.holds Try.pinned (OpenSpec.ofChange fnExactCountBarsWrong)

/-- 'laws.FnExactFarCells': WHATEVER THE INPUT: true; the input reads as it did. -/
def fnExactFarCellsSpec : ChangeSpec := { name := "fnExactFarCells", fn := fun _ => fun
  | [d1, d2] => { results := [.lit (.bool true)], args := [d1, d2] }
  | _ => none }
def fnExactFarCellsRow : OpenClaim := { program := "ytllpdnknaldbaaa", sum := "c33b94f164cbb53df2cca04a0fff3b3f249531573033ccdc1ebf9afba5da417d", func := "loop.example/g01265/laws.FnExactFarCells", spec := "fnExactFarCells", apart := false }
def FnExactFarCellsSaid : Prop := fnExactFarCellsRow.holds Try.pinned (OpenSpec.ofChange fnExactFarCellsSpec)

/-- ITS FALSE NEIGHBOUR: 'it returns false'. Refute it at one input. -/
def fnExactFarCellsWrong : ChangeSpec := { name := "fnExactFarCells", fn := fun _ => fun
  | [d1, d2] => { results := [.lit (.bool false)], args := [d1, d2] }
  | _ => none }
def FnExactFarCellsWrongFalsely : Prop := fnExactFarCellsRow.holds Try.pinned (OpenSpec.ofChange fnExactFarCellsWrong)

/-- 'laws.FnExactTurnCell': WHATEVER THE INPUT: true; the input reads as it did. -/
def fnExactTurnCellSpec : ChangeSpec := { name := "fnExactTurnCell", fn := fun _ => fun
  | [d] => { results := [.lit (.bool true)], args := [d] }
  | _ => none }
def fnExactTurnCellRow : OpenClaim := { program := "ytllpdnknaldbaaa", sum := "c33b94f164cbb53df2cca04a0fff3b3f249531573033ccdc1ebf9afba5da417d", func := "loop.example/g01265/laws.FnExactTurnCell", spec := "fnExactTurnCell", inPlace := ["internal/bytealg.IndexByteString", "internal/bytealg.IndexString"], named := ["internal/bytealg.MaxLen"], apart := false }
def FnExactTurnCellSaid : Prop := fnExactTurnCellRow.holds Try.pinned (OpenSpec.ofChange fnExactTurnCellSpec)

/-- ITS FALSE NEIGHBOUR: 'it returns false'. Refute it at one input. -/
def fnExactTurnCellWrong : ChangeSpec := { name := "fnExactTurnCell", fn := fun _ => fun
  | [d] => { results := [.lit (.bool false)], args := [d] }
  | _ => none }
def FnExactTurnCellWrongFalsely : Prop := fnExactTurnCellRow.holds Try.pinned (OpenSpec.ofChange fnExactTurnCellWrong)

/-- 'laws.FnExactMirrorCell': WHATEVER THE INPUT: true; the input reads as it did. -/
def fnExactMirrorCellSpec : ChangeSpec := { name := "fnExactMirrorCell", fn := fun _ => fun
  | [d] => { results := [.lit (.bool true)], args := [d] }
  | _ => none }
def fnExactMirrorCellRow : OpenClaim := { program := "ytllpdnknaldbaaa", sum := "c33b94f164cbb53df2cca04a0fff3b3f249531573033ccdc1ebf9afba5da417d", func := "loop.example/g01265/laws.FnExactMirrorCell", spec := "fnExactMirrorCell", inPlace := ["internal/bytealg.IndexByteString", "internal/bytealg.IndexString"], named := ["internal/bytealg.MaxLen"], apart := false }
def FnExactMirrorCellSaid : Prop := fnExactMirrorCellRow.holds Try.pinned (OpenSpec.ofChange fnExactMirrorCellSpec)

/-- ITS FALSE NEIGHBOUR: 'it returns false'. Refute it at one input. -/
def fnExactMirrorCellWrong : ChangeSpec := { name := "fnExactMirrorCell", fn := fun _ => fun
  | [d] => { results := [.lit (.bool false)], args := [d] }
  | _ => none }
def FnExactMirrorCellWrongFalsely : Prop := fnExactMirrorCellRow.holds Try.pinned (OpenSpec.ofChange fnExactMirrorCellWrong)

/-- 'laws.FnExactTurnRow': WHATEVER THE INPUT: true; the input reads as it did. -/
def fnExactTurnRowSpec : ChangeSpec := { name := "fnExactTurnRow", fn := fun _ => fun
  | [d] => { results := [.lit (.bool true)], args := [d] }
  | _ => none }
def fnExactTurnRowRow : OpenClaim := { program := "ytllpdnknaldbaaa", sum := "c33b94f164cbb53df2cca04a0fff3b3f249531573033ccdc1ebf9afba5da417d", func := "loop.example/g01265/laws.FnExactTurnRow", spec := "fnExactTurnRow", inPlace := ["internal/bytealg.IndexByteString", "internal/bytealg.IndexString"], named := ["internal/bytealg.MaxLen"], apart := false }
def FnExactTurnRowSaid : Prop := fnExactTurnRowRow.holds Try.pinned (OpenSpec.ofChange fnExactTurnRowSpec)

/-- ITS FALSE NEIGHBOUR: 'it returns false'. Refute it at one input. -/
def fnExactTurnRowWrong : ChangeSpec := { name := "fnExactTurnRow", fn := fun _ => fun
  | [d] => { results := [.lit (.bool false)], args := [d] }
  | _ => none }
def FnExactTurnRowWrongFalsely : Prop := fnExactTurnRowRow.holds Try.pinned (OpenSpec.ofChange fnExactTurnRowWrong)

/-- 'laws.FnExactMirrorRow': WHATEVER THE INPUT: true; the input reads as it did. -/
def fnExactMirrorRowSpec : ChangeSpec := { name := "fnExactMirrorRow", fn := fun _ => fun
  | [d] => { results := [.lit (.bool true)], args := [d] }
  | _ => none }
def fnExactMirrorRowRow : OpenClaim := { program := "ytllpdnknaldbaaa", sum := "c33b94f164cbb53df2cca04a0fff3b3f249531573033ccdc1ebf9afba5da417d", func := "loop.example/g01265/laws.FnExactMirrorRow", spec := "fnExactMirrorRow", inPlace := ["internal/bytealg.IndexByteString", "internal/bytealg.IndexString"], named := ["internal/bytealg.MaxLen"], apart := false }
def FnExactMirrorRowSaid : Prop := fnExactMirrorRowRow.holds Try.pinned (OpenSpec.ofChange fnExactMirrorRowSpec)

/-- ITS FALSE NEIGHBOUR: 'it returns false'. Refute it at one input. -/
def fnExactMirrorRowWrong : ChangeSpec := { name := "fnExactMirrorRow", fn := fun _ => fun
  | [d] => { results := [.lit (.bool false)], args := [d] }
  | _ => none }
def FnExactMirrorRowWrongFalsely : Prop := fnExactMirrorRowRow.holds Try.pinned (OpenSpec.ofChange fnExactMirrorRowWrong)

/-- 'laws.FnExactLitOf': WHATEVER THE INPUT: true; the input reads as it did. -/
def fnExactLitOfSpec : ChangeSpec := { name := "fnExactLitOf", fn := fun _ => fun
  | [d] => { results := [.lit (.bool true)], args := [d] }
  | _ => none }
def fnExactLitOfRow : OpenClaim := { program := "ytllpdnknaldbaaa", sum := "c33b94f164cbb53df2cca04a0fff3b3f249531573033ccdc1ebf9afba5da417d", func := "loop.example/g01265/laws.FnExactLitOf", spec := "fnExactLitOf", apart := false }
def FnExactLitOfSaid : Prop := fnExactLitOfRow.holds Try.pinned (OpenSpec.ofChange fnExactLitOfSpec)

/-- ITS FALSE NEIGHBOUR: 'it returns false'. Refute it at one input. -/
def fnExactLitOfWrong : ChangeSpec := { name := "fnExactLitOf", fn := fun _ => fun
  | [d] => { results := [.lit (.bool false)], args := [d] }
  | _ => none }
def FnExactLitOfWrongFalsely : Prop := fnExactLitOfRow.holds Try.pinned (OpenSpec.ofChange fnExactLitOfWrong)

/- THE SECOND FORM. 'bulk': how many values and letters a reading holds, each counted each time it is reached (what is shared counts as often as it is met; a slice's spare places count too). A statement '..UptoSaid' is the law's where the arguments, and the package variables that the reading takes, are together of bulk at most 1048576: NARROWER than '..Said'. Prove '..Said' where nothing that the law and all that it calls make is longer than what came in: it says more and counts as full. Else prove '..UptoSaid'. A law counts once. -/
mutual
def uptoBulk {H : Type} : DataW H → Nat
  | .lit (.string bytes) => bytes.length + 1
  | .lit _ => 1
  | .nil => 1
  | .ptr d => uptoBulk d + 1
  | .slice elems spare => uptoBulkAll elems + uptoBulkAll spare + 1
  | .agg parts => uptoBulkAll parts + 1
  | .iface _ d => uptoBulk d + 1
  | .map entries => uptoBulkEntries entries + 1
  | .held _ => 1
def uptoBulkAll {H : Type} : List (DataW H) → Nat
  | [] => 0
  | d :: r => uptoBulk d + uptoBulkAll r
def uptoBulkEntries {H : Type} : List (Lit × DataW H) → Nat
  | [] => 0
  | x :: r => uptoBulkEntry x + uptoBulkEntries r
def uptoBulkEntry {H : Type} : Lit × DataW H → Nat
  | (.string bytes, d) => bytes.length + uptoBulk d + 1
  | (_, d) => uptoBulk d + 1
 end
def uptoSmall : (H : Type) → List (DataW H) → Bool := fun _ ds => decide (uptoBulkAll ds ≤ 1048576)
def OpenSpec.upto (s : _root_.Go.ChangeSpec) : _root_.Go.OpenSpec := { _root_.Go.OpenSpec.ofChange s with cond := some uptoSmall }

/-- 'laws.FnExactIsCell', WHERE WHAT IT READS IS OF BULK AT MOST 1048576: true; the input reads as it did. -/
def fnExactIsCellUptoRow : OpenClaim := { program := "ytllpdnknaldbaaa", sum := "c33b94f164cbb53df2cca04a0fff3b3f249531573033ccdc1ebf9afba5da417d", func := "loop.example/g01265/laws.FnExactIsCell", spec := "fnExactIsCell", apart := false, narrowed := true }
def FnExactIsCellUptoSaid : Prop := fnExactIsCellUptoRow.holds Try.pinned (OpenSpec.upto fnExactIsCellSpec)

/-- 'laws.FnExactIsRow', WHERE WHAT IT READS IS OF BULK AT MOST 1048576: true; the input reads as it did. -/
def fnExactIsRowUptoRow : OpenClaim := { program := "ytllpdnknaldbaaa", sum := "c33b94f164cbb53df2cca04a0fff3b3f249531573033ccdc1ebf9afba5da417d", func := "loop.example/g01265/laws.FnExactIsRow", spec := "fnExactIsRow", apart := false, narrowed := true }
def FnExactIsRowUptoSaid : Prop := fnExactIsRowUptoRow.holds Try.pinned (OpenSpec.upto fnExactIsRowSpec)

/-- 'laws.FnExactCountBars', WHERE WHAT IT READS IS OF BULK AT MOST 1048576: true; the input reads as it did. -/
def fnExactCountBarsUptoRow : OpenClaim := { program := "ytllpdnknaldbaaa", sum := "c33b94f164cbb53df2cca04a0fff3b3f249531573033ccdc1ebf9afba5da417d", func := "loop.example/g01265/laws.FnExactCountBars", spec := "fnExactCountBars", apart := false, narrowed := true }
def FnExactCountBarsUptoSaid : Prop := fnExactCountBarsUptoRow.holds Try.pinned (OpenSpec.upto fnExactCountBarsSpec)

/-- 'laws.FnExactFarCells', WHERE WHAT IT READS IS OF BULK AT MOST 1048576: true; the input reads as it did. -/
def fnExactFarCellsUptoRow : OpenClaim := { program := "ytllpdnknaldbaaa", sum := "c33b94f164cbb53df2cca04a0fff3b3f249531573033ccdc1ebf9afba5da417d", func := "loop.example/g01265/laws.FnExactFarCells", spec := "fnExactFarCells", apart := false, narrowed := true }
def FnExactFarCellsUptoSaid : Prop := fnExactFarCellsUptoRow.holds Try.pinned (OpenSpec.upto fnExactFarCellsSpec)

/-- 'laws.FnExactTurnCell', WHERE WHAT IT READS IS OF BULK AT MOST 1048576: true; the input reads as it did. -/
def fnExactTurnCellUptoRow : OpenClaim := { program := "ytllpdnknaldbaaa", sum := "c33b94f164cbb53df2cca04a0fff3b3f249531573033ccdc1ebf9afba5da417d", func := "loop.example/g01265/laws.FnExactTurnCell", spec := "fnExactTurnCell", inPlace := ["internal/bytealg.IndexByteString", "internal/bytealg.IndexString"], named := ["internal/bytealg.MaxLen"], apart := false, narrowed := true }
def FnExactTurnCellUptoSaid : Prop := fnExactTurnCellUptoRow.holds Try.pinned (OpenSpec.upto fnExactTurnCellSpec)

/-- 'laws.FnExactMirrorCell', WHERE WHAT IT READS IS OF BULK AT MOST 1048576: true; the input reads as it did. -/
def fnExactMirrorCellUptoRow : OpenClaim := { program := "ytllpdnknaldbaaa", sum := "c33b94f164cbb53df2cca04a0fff3b3f249531573033ccdc1ebf9afba5da417d", func := "loop.example/g01265/laws.FnExactMirrorCell", spec := "fnExactMirrorCell", inPlace := ["internal/bytealg.IndexByteString", "internal/bytealg.IndexString"], named := ["internal/bytealg.MaxLen"], apart := false, narrowed := true }
def FnExactMirrorCellUptoSaid : Prop := fnExactMirrorCellUptoRow.holds Try.pinned (OpenSpec.upto fnExactMirrorCellSpec)

/-- 'laws.FnExactTurnRow', WHERE WHAT IT READS IS OF BULK AT MOST 1048576: true; the input reads as it did. -/
def fnExactTurnRowUptoRow : OpenClaim := { program := "ytllpdnknaldbaaa", sum := "c33b94f164cbb53df2cca04a0fff3b3f249531573033ccdc1ebf9afba5da417d", func := "loop.example/g01265/laws.FnExactTurnRow", spec := "fnExactTurnRow", inPlace := ["internal/bytealg.IndexByteString", "internal/bytealg.IndexString"], named := ["internal/bytealg.MaxLen"], apart := false, narrowed := true }
def FnExactTurnRowUptoSaid : Prop := fnExactTurnRowUptoRow.holds Try.pinned (OpenSpec.upto fnExactTurnRowSpec)

/-- 'laws.FnExactMirrorRow', WHERE WHAT IT READS IS OF BULK AT MOST 1048576: true; the input reads as it did. -/
def fnExactMirrorRowUptoRow : OpenClaim := { program := "ytllpdnknaldbaaa", sum := "c33b94f164cbb53df2cca04a0fff3b3f249531573033ccdc1ebf9afba5da417d", func := "loop.example/g01265/laws.FnExactMirrorRow", spec := "fnExactMirrorRow", inPlace := ["internal/bytealg.IndexByteString", "internal/bytealg.IndexString"], named := ["internal/bytealg.MaxLen"], apart := false, narrowed := true }
def FnExactMirrorRowUptoSaid : Prop := fnExactMirrorRowUptoRow.holds Try.pinned (OpenSpec.upto fnExactMirrorRowSpec)

/-- 'laws.FnExactLitOf', WHERE WHAT IT READS IS OF BULK AT MOST 1048576: true; the input reads as it did. -/
def fnExactLitOfUptoRow : OpenClaim := { program := "ytllpdnknaldbaaa", sum := "c33b94f164cbb53df2cca04a0fff3b3f249531573033ccdc1ebf9afba5da417d", func := "loop.example/g01265/laws.FnExactLitOf", spec := "fnExactLitOf", apart := false, narrowed := true }
def FnExactLitOfUptoSaid : Prop := fnExactLitOfUptoRow.holds Try.pinned (OpenSpec.upto fnExactLitOfSpec)

end Rows
end Go.Proofs.Ytllpdnknaldbaaa
