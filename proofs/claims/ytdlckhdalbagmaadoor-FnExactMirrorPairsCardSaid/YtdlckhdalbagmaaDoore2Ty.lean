/- Facts on the types of this translation, each closed by the kernel. No conditions. -/
import Derived.Test.YtdlckhdalbagmaaDoorRows
import Derived.Test.YtdlckhdalbagmaaDoorPwR
namespace Go.Proofs.YtdlckhdalbagmaaDoor.e2Ty
open Go.RowKit

def az (u : TypeId) : Nat := match u with | 83 => 2 | _ => 0

theorem sl_35 : SlTy Tryd.prog 35 3 1 8 [.int .i64 0] := slTy_of Tryd.underlying35 (z := .int .i64 0) (by kernel_rfl) rfl (by decide) (by decide) rfl
theorem one_3 : OneTy Tryd.prog 3 := oneTy_of Tryd.underlying3 rfl (by kernel_rfl)
theorem arr_97 : ArTy Tryd.prog 97 10 1 := arTy_of Tryd.underlying97 (by kernel_rfl)
theorem one_9 : OneTy Tryd.prog 9 := oneTy_of Tryd.underlying9 rfl (by kernel_rfl)
theorem zvt_3 : ZvTy Tryd.prog 3 (.int .i64 0) := zvTy_of (z := .int .i64 0) (by kernel_rfl) rfl
theorem agg_83 : AggTy Tryd.prog 83 2 := aggTy_of Tryd.underlying83 rfl (by kernel_rfl)
theorem zt_83 : ZeroTy Tryd.prog 83 [.int .i64 0, .int .i64 0] := zeroTy_of (z := .agg #[.int .i64 0, .int .i64 0]) (by kernel_rfl) rfl
theorem bt_83 : BuildTy Tryd.prog 83 (fun i => match i with | 0 => some (0, 1) | 1 => some (1, 1) | _ => none) [.int .i64 0, .int .i64 0] := ⟨.agg #[.int .i64 0, .int .i64 0], rfl, fun parts => by
  have h : Tryd.prog.built 83 parts = Instr.fill (#[(0, 1), (1, 1)][·]?) ((.agg #[.int .i64 0, .int .i64 0] : Value)).cells parts := by kernel_rfl
  have hp : (fun i => (#[(0, 1), (1, 1)] : Array (Nat × Nat))[i]?) = (fun i => match i with | 0 => some (0, 1) | 1 => some (1, 1) | _ => none) := by
    funext i
    rcases i with _ | _ | _ <;> rfl
  rw [h, hp]⟩
theorem fi_83_0 : FiTy Tryd.prog 83 0 0 := fiTy_of (k := 1) Tryd.underlying83 rfl rfl (by kernel_rfl) (by decide)
theorem fi_83_1 : FiTy Tryd.prog 83 1 1 := fiTy_of (k := 1) Tryd.underlying83 rfl rfl (by kernel_rfl) (by decide)
theorem eqty_3 : EqTy Tryd.prog 3 [.int .i64] 1 := eqTy_int one_3 Tryd.underlying3
theorem eqty_83 : EqTy Tryd.prog 83 [.int .i64, .int .i64] 2 := eqTy_struct (ks := [.int .i64, .int .i64]) agg_83 Tryd.underlying83 (by kernel_rfl) ⟨(by kernel_rfl), rfl, [.int .i64], [.int .i64], rfl, EqTy.mono eqty_3 (by decide), ⟨(by kernel_rfl), rfl, [.int .i64], [], rfl, EqTy.mono eqty_3 (by decide), rfl⟩⟩
theorem eqg_83 : Tryd.prog.eqGuardType Tryd.prog.depth 83 = false := by kernel_rfl
theorem one_35 : OneTy Tryd.prog 35 := oneTy_of Tryd.underlying35 rfl (by kernel_rfl)
theorem one_58 : OneTy Tryd.prog 58 := oneTy_of Tryd.underlying58 rfl (by kernel_rfl)
theorem sl_48 : SlTy Tryd.prog 48 52 2 16 [.int .i64 0, .int .i64 0] := slTy_of Tryd.underlying48 (z := .agg #[.int .i64 0, .int .i64 0]) (by kernel_rfl) rfl (by decide) (by decide) rfl
theorem zt_48 : ZeroTy Tryd.prog 48 [.sl 0 []] := zeroTy_of (z := .slice none 0 0) (by kernel_rfl) rfl
theorem one_48 : OneTy Tryd.prog 48 := oneTy_of Tryd.underlying48 rfl (by kernel_rfl)
theorem bt_52 : BuildTy Tryd.prog 52 (fun i => some (i * 1, 1)) [.int .i64 0, .int .i64 0] := ⟨.agg #[.int .i64 0, .int .i64 0], rfl, fun parts => by kernel_rfl⟩

end Go.Proofs.YtdlckhdalbagmaaDoor.e2Ty
