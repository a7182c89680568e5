/- Facts on the types of this translation, each closed by the kernel. No conditions. -/
import Derived.Test.YtgpgjaebhfhjoabDoorRows
import Derived.Test.YtgpgjaebhfhjoabDoorPwR
namespace Go.Proofs.YtgpgjaebhfhjoabDoor.l1Ty
open Go.RowKit

def az (u : TypeId) : Nat := match u with  | _ => 0

theorem sl_34 : SlTy Tryd.prog 34 5 1 1 [.int .u8 0] := slTy_of Tryd.underlying34 (z := .int .u8 0) (by kernel_rfl) rfl (by decide) (by decide) rfl
theorem sl_22 : SlTy Tryd.prog 22 9 1 16 [.str []] := slTy_of Tryd.underlying22 (z := .string ByteArray.empty) (by kernel_rfl) rfl (by decide) (by decide) rfl
theorem one_9 : OneTy Tryd.prog 9 := oneTy_of Tryd.underlying9 rfl (by kernel_rfl)

end Go.Proofs.YtgpgjaebhfhjoabDoor.l1Ty
