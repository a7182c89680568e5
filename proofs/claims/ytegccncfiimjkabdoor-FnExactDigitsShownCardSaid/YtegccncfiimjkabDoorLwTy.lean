/- Facts on the types of this translation, each closed by the kernel. No conditions. -/
import Derived.Test.YtegccncfiimjkabDoorRows
import Derived.Test.YtegccncfiimjkabDoorPwR
namespace Go.Proofs.YtegccncfiimjkabDoor.LwTy
open Go.RowKit

def az (u : TypeId) : Nat := match u with | 23 => 2 | _ => 0

theorem agg_23 : AggTy Tryd.prog 23 2 := aggTy_of Tryd.underlying23 rfl (by kernel_rfl)

end Go.Proofs.YtegccncfiimjkabDoor.LwTy
