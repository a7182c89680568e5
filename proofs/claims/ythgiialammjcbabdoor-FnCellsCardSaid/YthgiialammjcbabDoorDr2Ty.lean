/- Facts on the types of this translation, each closed by the kernel. No conditions. -/
import Derived.Test.YthgiialammjcbabDoorRows
import Derived.Test.YthgiialammjcbabDoorPwR
namespace Go.Proofs.YthgiialammjcbabDoor.Dr2Ty
open Go.RowKit

def az (u : TypeId) : Nat := match u with  | _ => 0

theorem sl_63 : SlTy Tryd.prog 63 3 1 8 [.int .i64 0] := slTy_of Tryd.underlying63 (z := .int .i64 0) (by kernel_rfl) rfl (by decide) (by decide) rfl

end Go.Proofs.YthgiialammjcbabDoor.Dr2Ty
