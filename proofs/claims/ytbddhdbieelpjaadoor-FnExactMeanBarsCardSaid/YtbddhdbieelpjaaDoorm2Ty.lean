/- Facts on the types of this translation, each closed by the kernel. No conditions. -/
import Derived.Test.YtbddhdbieelpjaaDoorRows
import Derived.Test.YtbddhdbieelpjaaDoorPwR
namespace Go.Proofs.YtbddhdbieelpjaaDoor.m2Ty
open Go.RowKit

def az (u : TypeId) : Nat := match u with  | _ => 0

theorem sl_81 : SlTy Tryd.prog 81 3 1 8 [.int .i64 0] := slTy_of Tryd.underlying81 (z := .int .i64 0) (by kernel_rfl) rfl (by decide) (by decide) rfl
theorem one_3 : OneTy Tryd.prog 3 := oneTy_of Tryd.underlying3 rfl (by kernel_rfl)
theorem arr_95 : ArTy Tryd.prog 95 10 1 := arTy_of Tryd.underlying95 (by kernel_rfl)
theorem one_9 : OneTy Tryd.prog 9 := oneTy_of Tryd.underlying9 rfl (by kernel_rfl)

end Go.Proofs.YtbddhdbieelpjaaDoor.m2Ty
