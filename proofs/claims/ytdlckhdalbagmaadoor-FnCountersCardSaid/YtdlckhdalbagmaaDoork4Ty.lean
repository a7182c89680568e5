/- Facts on the types of this translation, each closed by the kernel. No conditions. -/
import Derived.Test.YtdlckhdalbagmaaDoorRows
import Derived.Test.YtdlckhdalbagmaaDoorPwR
namespace Go.Proofs.YtdlckhdalbagmaaDoor.k4Ty
open Go.RowKit

def az (u : TypeId) : Nat := match u with | 43 => 7 | _ => 0

theorem sl_35 : SlTy Tryd.prog 35 3 1 8 [.int .i64 0] := slTy_of Tryd.underlying35 (z := .int .i64 0) (by kernel_rfl) rfl (by decide) (by decide) rfl
theorem one_3 : OneTy Tryd.prog 3 := oneTy_of Tryd.underlying3 rfl (by kernel_rfl)
theorem sl_28 : SlTy Tryd.prog 28 43 7 56 [.int .i64 0, .int .i64 0, .int .i64 0, .int .i64 0, .int .i64 0, .int .i64 0, .int .i64 0] := slTy_of Tryd.underlying28 (z := .agg #[.int .i64 0, .int .i64 0, .int .i64 0, .int .i64 0, .int .i64 0, .int .i64 0, .int .i64 0]) (by kernel_rfl) rfl (by decide) (by decide) rfl
theorem agg_43 : AggTy Tryd.prog 43 7 := aggTy_of Tryd.underlying43 rfl (by kernel_rfl)
theorem eqty_3 : EqTy Tryd.prog 3 [.int .i64] 1 := eqTy_int one_3 Tryd.underlying3
theorem eqty_43 : EqTy Tryd.prog 43 (List.replicate 7 [.int .i64]).flatten 2 := eqTy_array agg_43 Tryd.underlying43 (by kernel_rfl) (by kernel_rfl) eqty_3
theorem eqg_43 : Tryd.prog.eqGuardType Tryd.prog.depth 43 = false := by kernel_rfl
theorem arr_43 : ArTy Tryd.prog 43 7 1 := arTy_of Tryd.underlying43 (by kernel_rfl)

end Go.Proofs.YtdlckhdalbagmaaDoor.k4Ty
