/- Facts on the types of this translation, each closed by the kernel. No conditions. -/
import Derived.Test.YtgpgjaebhfhjoabGreatDoorRows
import Derived.Test.YtgpgjaebhfhjoabGreatDoorPwR
namespace Go.Proofs.YtgpgjaebhfhjoabGreatDoor.b1Ty
open Go.RowKit
def az (u : TypeId) : Nat := match u with  | _ => 0
theorem sl_25 : SlTy Tryz.prog 25 3 1 8 [.int .i64 0] := slTy_of Tryz.underlying25 (z := .int .i64 0) (by kernel_rfl) rfl (by decide) (by decide) rfl
theorem one_3 : OneTy Tryz.prog 3 := oneTy_of Tryz.underlying3 rfl (by kernel_rfl)
end Go.Proofs.YtgpgjaebhfhjoabGreatDoor.b1Ty
