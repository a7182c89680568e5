/- Facts on the types of this translation, each closed by the kernel. No conditions. -/
import Derived.Test.YtfagllolcalfiabDoorRows
import Derived.Test.YtfagllolcalfiabDoorPwR
namespace Go.Proofs.YtfagllolcalfiabDoor.y2Ty
open Go.RowKit
def az (u : TypeId) : Nat := match u with  | _ => 0
theorem sl_22 : SlTy Tryd.prog 22 3 1 8 [.int .i64 0] := slTy_of Tryd.underlying22 (z := .int .i64 0) (by kernel_rfl) rfl (by decide) (by decide) rfl
theorem one_3 : OneTy Tryd.prog 3 := oneTy_of Tryd.underlying3 rfl (by kernel_rfl)
theorem arr_95 : ArTy Tryd.prog 95 10 1 := arTy_of Tryd.underlying95 (by kernel_rfl)
theorem one_9 : OneTy Tryd.prog 9 := oneTy_of Tryd.underlying9 rfl (by kernel_rfl)
theorem zt_84 : ZeroTy Tryd.prog 84 [.bool false, .bool false, .bool false, .bool false, .bool false, .bool false, .bool false, .bool false, .bool false, .bool false] := zeroTy_of (z := .agg #[.bool false, .bool false, .bool false, .bool false, .bool false, .bool false, .bool false, .bool false, .bool false, .bool false]) (by kernel_rfl) rfl
theorem arr_84 : ArTy Tryd.prog 84 10 1 := arTy_of Tryd.underlying84 (by kernel_rfl)
theorem one_4 : OneTy Tryd.prog 4 := oneTy_of Tryd.underlying4 rfl (by kernel_rfl)
end Go.Proofs.YtfagllolcalfiabDoor.y2Ty
