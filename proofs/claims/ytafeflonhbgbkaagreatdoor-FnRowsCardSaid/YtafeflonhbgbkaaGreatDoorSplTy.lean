/- Facts on the types of this translation, each closed by the kernel. No conditions. -/
import Derived.Test.YtafeflonhbgbkaaGreatDoorRows
import Derived.Test.YtafeflonhbgbkaaGreatDoorPwR
namespace Go.Proofs.YtafeflonhbgbkaaGreatDoor.SplTy
open Go.RowKit

def az (u : TypeId) : Nat := match u with  | _ => 0

theorem sl_56 : SlTy Tryz.prog 56 9 1 16 [.str []] := slTy_of Tryz.underlying56 (z := .string ByteArray.empty) (by kernel_rfl) rfl (by decide) (by decide) rfl

end Go.Proofs.YtafeflonhbgbkaaGreatDoor.SplTy
