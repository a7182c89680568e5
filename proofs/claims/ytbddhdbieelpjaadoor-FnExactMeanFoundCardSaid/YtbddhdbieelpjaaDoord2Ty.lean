/- Facts on the types of this translation, each closed by the kernel. No conditions. -/
import Derived.Test.YtbddhdbieelpjaaDoorRows
import Derived.Test.YtbddhdbieelpjaaDoorPwR
namespace Go.Proofs.YtbddhdbieelpjaaDoor.d2Ty
open Go.RowKit

def az (u : TypeId) : Nat := match u with | 49 => 2 | 110 => 2 | 149 => 10 | _ => 0

theorem arr_95 : ArTy Tryd.prog 95 10 1 := arTy_of Tryd.underlying95 (by kernel_rfl)
theorem one_9 : OneTy Tryd.prog 9 := oneTy_of Tryd.underlying9 rfl (by kernel_rfl)
theorem fi_49_0 : FiTy Tryd.prog 49 0 0 := fiTy_of (k := 1) Tryd.underlying49 rfl rfl (by kernel_rfl) (by decide)
theorem one_3 : OneTy Tryd.prog 3 := oneTy_of Tryd.underlying3 rfl (by kernel_rfl)
theorem fi_49_1 : FiTy Tryd.prog 49 1 1 := fiTy_of (k := 1) Tryd.underlying49 rfl rfl (by kernel_rfl) (by decide)
theorem agg_49 : AggTy Tryd.prog 49 2 := aggTy_of Tryd.underlying49 rfl (by kernel_rfl)
theorem fi_110_1 : FiTy Tryd.prog 110 1 1 := fiTy_of (k := 1) Tryd.underlying110 rfl rfl (by kernel_rfl) (by decide)
theorem fi_110_0 : FiTy Tryd.prog 110 0 0 := fiTy_of (k := 1) Tryd.underlying110 rfl rfl (by kernel_rfl) (by decide)
theorem zt_49 : ZeroTy Tryd.prog 49 [.int .i64 0, .int .i64 0] := zeroTy_of (z := .agg #[.int .i64 0, .int .i64 0]) (by kernel_rfl) rfl
theorem agg_110 : AggTy Tryd.prog 110 2 := aggTy_of Tryd.underlying110 rfl (by kernel_rfl)
theorem bt_49 : BuildTy Tryd.prog 49 (fun i => match i with | 0 => some (0, 1) | 1 => some (1, 1) | _ => none) [.int .i64 0, .int .i64 0] := ⟨.agg #[.int .i64 0, .int .i64 0], rfl, fun parts => by
  have h : Tryd.prog.built 49 parts = Instr.fill (#[(0, 1), (1, 1)][·]?) ((.agg #[.int .i64 0, .int .i64 0] : Value)).cells parts := by kernel_rfl
  have hp : (fun i => (#[(0, 1), (1, 1)] : Array (Nat × Nat))[i]?) = (fun i => match i with | 0 => some (0, 1) | 1 => some (1, 1) | _ => none) := by
    funext i
    rcases i with _ | _ | _ <;> rfl
  rw [h, hp]⟩
theorem sl_81 : SlTy Tryd.prog 81 3 1 8 [.int .i64 0] := slTy_of Tryd.underlying81 (z := .int .i64 0) (by kernel_rfl) rfl (by decide) (by decide) rfl
theorem zt_81 : ZeroTy Tryd.prog 81 [.sl 0 []] := zeroTy_of (z := .slice none 0 0) (by kernel_rfl) rfl
theorem one_81 : OneTy Tryd.prog 81 := oneTy_of Tryd.underlying81 rfl (by kernel_rfl)
theorem agg_149 : AggTy Tryd.prog 149 10 := aggTy_of Tryd.underlying149 rfl (by kernel_rfl)
theorem zt_149 : ZeroTy Tryd.prog 149 [.int .i64 0, .int .i64 0, .int .i64 0, .int .i64 0, .int .i64 0, .int .i64 0, .int .i64 0, .int .i64 0, .int .i64 0, .int .i64 0] := zeroTy_of (z := .agg #[.int .i64 0, .int .i64 0, .int .i64 0, .int .i64 0, .int .i64 0, .int .i64 0, .int .i64 0, .int .i64 0, .int .i64 0, .int .i64 0]) (by kernel_rfl) rfl
theorem arr_149 : ArTy Tryd.prog 149 10 1 := arTy_of Tryd.underlying149 (by kernel_rfl)
theorem zt_145 : ZeroTy Tryd.prog 145 [.cst 2] := zeroTy_of (z := .nilFunc) (by kernel_rfl) rfl
theorem one_145 : OneTy Tryd.prog 145 := oneTy_of Tryd.underlying145 rfl (by kernel_rfl)
theorem bt_110 : BuildTy Tryd.prog 110 (fun i => match i with | 0 => some (0, 1) | 1 => some (1, 1) | _ => none) [.int .i64 0, .int .i64 0] := ⟨.agg #[.int .i64 0, .int .i64 0], rfl, fun parts => by
  have h : Tryd.prog.built 110 parts = Instr.fill (#[(0, 1), (1, 1)][·]?) ((.agg #[.int .i64 0, .int .i64 0] : Value)).cells parts := by kernel_rfl
  have hp : (fun i => (#[(0, 1), (1, 1)] : Array (Nat × Nat))[i]?) = (fun i => match i with | 0 => some (0, 1) | 1 => some (1, 1) | _ => none) := by
    funext i
    rcases i with _ | _ | _ <;> rfl
  rw [h, hp]⟩
theorem eqty_3 : EqTy Tryd.prog 3 [.int .i64] 1 := eqTy_int one_3 Tryd.underlying3
theorem eqty_149 : EqTy Tryd.prog 149 (List.replicate 10 [.int .i64]).flatten 2 := eqTy_array agg_149 Tryd.underlying149 (by kernel_rfl) (by kernel_rfl) eqty_3
theorem eqg_149 : Tryd.prog.eqGuardType Tryd.prog.depth 149 = false := by kernel_rfl
theorem sl_86 : SlTy Tryd.prog 86 110 2 16 [.int .i64 0, .int .i64 0] := slTy_of Tryd.underlying86 (z := .agg #[.int .i64 0, .int .i64 0]) (by kernel_rfl) rfl (by decide) (by decide) rfl
theorem zt_110 : ZeroTy Tryd.prog 110 [.int .i64 0, .int .i64 0] := zeroTy_of (z := .agg #[.int .i64 0, .int .i64 0]) (by kernel_rfl) rfl
theorem zt_129 : ZeroTy Tryd.prog 129 [.cst 2] := zeroTy_of (z := .nilFunc) (by kernel_rfl) rfl
theorem one_129 : OneTy Tryd.prog 129 := oneTy_of Tryd.underlying129 rfl (by kernel_rfl)

end Go.Proofs.YtbddhdbieelpjaaDoor.d2Ty
