/- Facts on the types of this translation, each closed by the kernel. No conditions. -/
import Derived.Test.YtgpgjaebhfhjoabGreatDoorRows
import Derived.Test.YtgpgjaebhfhjoabGreatDoorPwR
namespace Go.Proofs.YtgpgjaebhfhjoabGreatDoor.b2Ty
open Go.RowKit
def az (u : TypeId) : Nat := match u with  | _ => 0
theorem sl_25 : SlTy Tryz.prog 25 3 1 8 [.int .i64 0] := slTy_of Tryz.underlying25 (z := .int .i64 0) (by kernel_rfl) rfl (by decide) (by decide) rfl
theorem one_3 : OneTy Tryz.prog 3 := oneTy_of Tryz.underlying3 rfl (by kernel_rfl)
theorem arr_90 : ArTy Tryz.prog 90 10 1 := arTy_of Tryz.underlying90 (by kernel_rfl)
theorem one_9 : OneTy Tryz.prog 9 := oneTy_of Tryz.underlying9 rfl (by kernel_rfl)
theorem zvt_3 : ZvTy Tryz.prog 3 (.int .i64 0) := zvTy_of (z := .int .i64 0) (by kernel_rfl) rfl
theorem arr_86 : ArTy Tryz.prog 86 16 1 := arTy_of Tryz.underlying86 (by kernel_rfl)
theorem zvt_9 : ZvTy Tryz.prog 9 (.str []) := zvTy_of (z := .string ByteArray.empty) (by kernel_rfl) rfl
end Go.Proofs.YtgpgjaebhfhjoabGreatDoor.b2Ty
