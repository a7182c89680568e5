/- Facts on the types of this translation, each closed by the kernel. No conditions. -/
import Derived.Test.YtmjgkhfjhedpkaaDoorRows
import Derived.Test.YtmjgkhfjhedpkaaDoorPwR
namespace Go.Proofs.YtmjgkhfjhedpkaaDoor.f4Ty
open Go.RowKit

def az (u : TypeId) : Nat := match u with | 26 => 2 | _ => 0

theorem agg_26 : AggTy Tryd.prog 26 2 := aggTy_of Tryd.underlying26 rfl (by kernel_rfl)
theorem zt_26 : ZeroTy Tryd.prog 26 [.int .i64 0, .int .i64 0] := zeroTy_of (z := .agg #[.int .i64 0, .int .i64 0]) (by kernel_rfl) rfl
theorem arr_26 : ArTy Tryd.prog 26 2 1 := arTy_of Tryd.underlying26 (by kernel_rfl)
theorem one_3 : OneTy Tryd.prog 3 := oneTy_of Tryd.underlying3 rfl (by kernel_rfl)
theorem bt_26 : BuildTy Tryd.prog 26 (fun i => some (i * 1, 1)) [.int .i64 0, .int .i64 0] := ⟨.agg #[.int .i64 0, .int .i64 0], rfl, fun parts => by kernel_rfl⟩
theorem sl_33 : SlTy Tryd.prog 33 26 2 16 [.int .i64 0, .int .i64 0] := slTy_of Tryd.underlying33 (z := .agg #[.int .i64 0, .int .i64 0]) (by kernel_rfl) rfl (by decide) (by decide) rfl
theorem eqty_3 : EqTy Tryd.prog 3 [.int .i64] 1 := eqTy_int one_3 Tryd.underlying3
theorem eqty_26 : EqTy Tryd.prog 26 (List.replicate 2 [.int .i64]).flatten 2 := eqTy_array agg_26 Tryd.underlying26 (by kernel_rfl) (by kernel_rfl) eqty_3
theorem eqg_26 : Tryd.prog.eqGuardType Tryd.prog.depth 26 = false := by kernel_rfl

end Go.Proofs.YtmjgkhfjhedpkaaDoor.f4Ty
