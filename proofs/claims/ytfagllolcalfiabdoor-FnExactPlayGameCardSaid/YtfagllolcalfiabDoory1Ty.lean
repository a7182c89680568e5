/- Facts on the types of this translation, each closed by the kernel. No conditions. -/
import Derived.Test.YtfagllolcalfiabDoorRows
import Derived.Test.YtfagllolcalfiabDoorPwR
namespace Go.Proofs.YtfagllolcalfiabDoor.y1Ty
open Go.RowKit
def az (u : TypeId) : Nat := match u with  | _ => 0
theorem sl_22 : SlTy Tryd.prog 22 3 1 8 [.int .i64 0] := slTy_of Tryd.underlying22 (z := .int .i64 0) (by kernel_rfl) rfl (by decide) (by decide) rfl
theorem one_3 : OneTy Tryd.prog 3 := oneTy_of Tryd.underlying3 rfl (by kernel_rfl)
end Go.Proofs.YtfagllolcalfiabDoor.y1Ty
