/- Facts on the types of this translation, each closed by the kernel. No conditions. -/
import Derived.Test.YtahjedckfkkcnabDoorRows
import Derived.Test.YtahjedckfkkcnabDoorPwR
namespace Go.Proofs.YtahjedckfkkcnabDoor.LATy
open Go.RowKit

def az (u : TypeId) : Nat := match u with | 22 => 10 | _ => 0

theorem arr_22 : ArTy Tryd.prog 22 10 1 := arTy_of Tryd.underlying22 (by kernel_rfl)
theorem one_3 : OneTy Tryd.prog 3 := oneTy_of Tryd.underlying3 rfl (by kernel_rfl)
theorem arr_27 : ArTy Tryd.prog 27 7 1 := arTy_of Tryd.underlying27 (by kernel_rfl)
theorem arr_23 : ArTy Tryd.prog 23 10 10 := arTy_of Tryd.underlying23 (by kernel_rfl)
theorem agg_22 : AggTy Tryd.prog 22 10 := aggTy_of Tryd.underlying22 rfl (by kernel_rfl)

end Go.Proofs.YtahjedckfkkcnabDoor.LATy
