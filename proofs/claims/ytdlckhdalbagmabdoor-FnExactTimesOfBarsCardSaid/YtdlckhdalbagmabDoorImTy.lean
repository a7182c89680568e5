/- Facts on the types of this translation, each closed by the kernel. No conditions. -/
import Derived.Test.YtdlckhdalbagmabDoorRows
import Derived.Test.YtdlckhdalbagmabDoorPwR
namespace Go.Proofs.YtdlckhdalbagmabDoor.ImTy
open Go.RowKit

def az (u : TypeId) : Nat := match u with  | _ => 0

theorem sl_25 : SlTy Tryd.prog 25 3 1 8 [.int .i64 0] := slTy_of Tryd.underlying25 (z := .int .i64 0) (by kernel_rfl) rfl (by decide) (by decide) rfl
theorem one_3 : OneTy Tryd.prog 3 := oneTy_of Tryd.underlying3 rfl (by kernel_rfl)
theorem arr_71 : ArTy Tryd.prog 71 10 1 := arTy_of Tryd.underlying71 (by kernel_rfl)
theorem one_9 : OneTy Tryd.prog 9 := oneTy_of Tryd.underlying9 rfl (by kernel_rfl)
theorem zvt_3 : ZvTy Tryd.prog 3 (.int .i64 0) := zvTy_of (z := .int .i64 0) (by kernel_rfl) rfl

end Go.Proofs.YtdlckhdalbagmabDoor.ImTy
