/- Facts on the types of this translation, each closed by the kernel. No conditions. -/
import Derived.Test.YthgiialammjcbaaRows
import Derived.Test.YthgiialammjcbaaPwR
namespace Go.Proofs.Ythgiialammjcbaa.Dr2Ty
open Go.RowKit

def az (u : TypeId) : Nat := match u with  | _ => 0

theorem sl_33 : SlTy Try.prog 33 3 1 8 [.int .i64 0] := slTy_of Try.underlying33 (z := .int .i64 0) (by kernel_rfl) rfl (by decide) (by decide) rfl

end Go.Proofs.Ythgiialammjcbaa.Dr2Ty
