/- Facts on the types of this translation, each closed by the kernel. No conditions. -/
import Derived.Test.YtdlckhdalbagmaaDoorRows
import Derived.Test.YtdlckhdalbagmaaDoorPwR
namespace Go.Proofs.YtdlckhdalbagmaaDoor.k2Ty
open Go.RowKit

def az (u : TypeId) : Nat := match u with | 43 => 7 | _ => 0

theorem sl_35 : SlTy Tryd.prog 35 3 1 8 [.int .i64 0] := slTy_of Tryd.underlying35 (z := .int .i64 0) (by kernel_rfl) rfl (by decide) (by decide) rfl
theorem one_3 : OneTy Tryd.prog 3 := oneTy_of Tryd.underlying3 rfl (by kernel_rfl)
theorem arr_97 : ArTy Tryd.prog 97 10 1 := arTy_of Tryd.underlying97 (by kernel_rfl)
theorem one_9 : OneTy Tryd.prog 9 := oneTy_of Tryd.underlying9 rfl (by kernel_rfl)
theorem zvt_3 : ZvTy Tryd.prog 3 (.int .i64 0) := zvTy_of (z := .int .i64 0) (by kernel_rfl) rfl
theorem sl_28 : SlTy Tryd.prog 28 43 7 56 [.int .i64 0, .int .i64 0, .int .i64 0, .int .i64 0, .int .i64 0, .int .i64 0, .int .i64 0] := slTy_of Tryd.underlying28 (z := .agg #[.int .i64 0, .int .i64 0, .int .i64 0, .int .i64 0, .int .i64 0, .int .i64 0, .int .i64 0]) (by kernel_rfl) rfl (by decide) (by decide) rfl
theorem arr_43 : ArTy Tryd.prog 43 7 1 := arTy_of Tryd.underlying43 (by kernel_rfl)
theorem agg_43 : AggTy Tryd.prog 43 7 := aggTy_of Tryd.underlying43 rfl (by kernel_rfl)
theorem zt_43 : ZeroTy Tryd.prog 43 [.int .i64 0, .int .i64 0, .int .i64 0, .int .i64 0, .int .i64 0, .int .i64 0, .int .i64 0] := zeroTy_of (z := .agg #[.int .i64 0, .int .i64 0, .int .i64 0, .int .i64 0, .int .i64 0, .int .i64 0, .int .i64 0]) (by kernel_rfl) rfl
theorem one_4 : OneTy Tryd.prog 4 := oneTy_of Tryd.underlying4 rfl (by kernel_rfl)
theorem zt_3 : ZeroTy Tryd.prog 3 [.int .i64 0] := zeroTy_of (z := .int .i64 0) (by kernel_rfl) rfl
theorem zt_4 : ZeroTy Tryd.prog 4 [.bool false] := zeroTy_of (z := .bool false) (by kernel_rfl) rfl
theorem one_28 : OneTy Tryd.prog 28 := oneTy_of Tryd.underlying28 rfl (by kernel_rfl)
theorem zt_28 : ZeroTy Tryd.prog 28 [.sl 0 []] := zeroTy_of (z := .slice none 0 0) (by kernel_rfl) rfl

end Go.Proofs.YtdlckhdalbagmaaDoor.k2Ty
