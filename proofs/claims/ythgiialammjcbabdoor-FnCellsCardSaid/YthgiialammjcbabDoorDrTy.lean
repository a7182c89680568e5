/- Facts on the types of this translation, each closed by the kernel. No conditions. -/
import Derived.Test.YthgiialammjcbabDoorRows
import Derived.Test.YthgiialammjcbabDoorPwR
namespace Go.Proofs.YthgiialammjcbabDoor.DrTy
open Go.RowKit

def az (u : TypeId) : Nat := match u with  | _ => 0

theorem fi_39_1 : FiTy Tryd.prog 39 1 1 := fiTy_of (k := 1) Tryd.underlying39 rfl rfl (by kernel_rfl) (by decide)
theorem one_3 : OneTy Tryd.prog 3 := oneTy_of Tryd.underlying3 rfl (by kernel_rfl)
theorem fi_39_0 : FiTy Tryd.prog 39 0 0 := fiTy_of (k := 1) Tryd.underlying39 rfl rfl (by kernel_rfl) (by decide)
theorem one_22 : OneTy Tryd.prog 22 := oneTy_of Tryd.underlying22 rfl (by kernel_rfl)
theorem sl_22 : SlTy Tryd.prog 22 5 1 1 [.int .u8 0] := slTy_of Tryd.underlying22 (z := .int .u8 0) (by kernel_rfl) rfl (by decide) (by decide) rfl
theorem one_5 : OneTy Tryd.prog 5 := oneTy_of Tryd.underlying5 rfl (by kernel_rfl)
theorem fi_39_2 : FiTy Tryd.prog 39 2 2 := fiTy_of (k := 1) Tryd.underlying39 rfl rfl (by kernel_rfl) (by decide)
theorem one_37 : OneTy Tryd.prog 37 := oneTy_of Tryd.underlying37 rfl (by kernel_rfl)
theorem sl_63 : SlTy Tryd.prog 63 3 1 8 [.int .i64 0] := slTy_of Tryd.underlying63 (z := .int .i64 0) (by kernel_rfl) rfl (by decide) (by decide) rfl

end Go.Proofs.YthgiialammjcbabDoor.DrTy
