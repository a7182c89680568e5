/- Facts on the types of this translation, each closed by the kernel. No conditions. -/
import Derived.Test.YtgpgjaebhfhjoabDoorRows
import Derived.Test.YtgpgjaebhfhjoabDoorPwR
namespace Go.Proofs.YtgpgjaebhfhjoabDoor.l2Ty
open Go.RowKit

def az (u : TypeId) : Nat := match u with  | _ => 0

theorem arr_86 : ArTy Tryd.prog 86 16 1 := arTy_of Tryd.underlying86 (by kernel_rfl)
theorem one_9 : OneTy Tryd.prog 9 := oneTy_of Tryd.underlying9 rfl (by kernel_rfl)
theorem sl_22 : SlTy Tryd.prog 22 9 1 16 [.str []] := slTy_of Tryd.underlying22 (z := .string ByteArray.empty) (by kernel_rfl) rfl (by decide) (by decide) rfl
theorem zvt_3 : ZvTy Tryd.prog 3 (.int .i64 0) := zvTy_of (z := .int .i64 0) (by kernel_rfl) rfl

end Go.Proofs.YtgpgjaebhfhjoabDoor.l2Ty
