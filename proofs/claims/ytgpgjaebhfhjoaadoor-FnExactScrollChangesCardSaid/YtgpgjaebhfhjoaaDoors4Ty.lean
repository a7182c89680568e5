/- Facts on the types of this translation, each closed by the kernel. No conditions. -/
import Derived.Test.YtgpgjaebhfhjoaaDoorRows
import Derived.Test.YtgpgjaebhfhjoaaDoorPwR
namespace Go.Proofs.YtgpgjaebhfhjoaaDoor.s4Ty
open Go.RowKit

def az (u : TypeId) : Nat := match u with  | _ => 0

theorem sl_28 : SlTy Tryd.prog 28 3 1 8 [.int .i64 0] := slTy_of Tryd.underlying28 (z := .int .i64 0) (by kernel_rfl) rfl (by decide) (by decide) rfl

end Go.Proofs.YtgpgjaebhfhjoaaDoor.s4Ty
