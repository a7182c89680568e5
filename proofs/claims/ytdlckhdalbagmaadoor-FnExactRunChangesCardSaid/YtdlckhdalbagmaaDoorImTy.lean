/- Facts on the types of this translation, each closed by the kernel. No conditions. -/
import Derived.Test.YtdlckhdalbagmaaDoorRows
import Derived.Test.YtdlckhdalbagmaaDoorPwR
namespace Go.Proofs.YtdlckhdalbagmaaDoor.ImTy
open Go.RowKit

def az (u : TypeId) : Nat := match u with  | _ => 0

theorem sl_35 : SlTy Tryd.prog 35 3 1 8 [.int .i64 0] := slTy_of Tryd.underlying35 (z := .int .i64 0) (by kernel_rfl) rfl (by decide) (by decide) rfl
theorem one_3 : OneTy Tryd.prog 3 := oneTy_of Tryd.underlying3 rfl (by kernel_rfl)
theorem arr_97 : ArTy Tryd.prog 97 10 1 := arTy_of Tryd.underlying97 (by kernel_rfl)
theorem one_9 : OneTy Tryd.prog 9 := oneTy_of Tryd.underlying9 rfl (by kernel_rfl)
theorem zvt_3 : ZvTy Tryd.prog 3 (.int .i64 0) := zvTy_of (z := .int .i64 0) (by kernel_rfl) rfl

end Go.Proofs.YtdlckhdalbagmaaDoor.ImTy
