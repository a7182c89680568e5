/- Facts on the types of this translation, each closed by the kernel. No conditions. -/
import Derived.Test.YtgpgjaebhfhjoaaDoorRows
import Derived.Test.YtgpgjaebhfhjoaaDoorPwR
namespace Go.Proofs.YtgpgjaebhfhjoaaDoor.s1Ty
open Go.RowKit

def az (u : TypeId) : Nat := match u with  | _ => 0

theorem sl_28 : SlTy Tryd.prog 28 3 1 8 [.int .i64 0] := slTy_of Tryd.underlying28 (z := .int .i64 0) (by kernel_rfl) rfl (by decide) (by decide) rfl
theorem one_3 : OneTy Tryd.prog 3 := oneTy_of Tryd.underlying3 rfl (by kernel_rfl)
theorem sl_42 : SlTy Tryd.prog 42 28 1 24 [.sl 0 []] := slTy_of Tryd.underlying42 (z := .slice none 0 0) (by kernel_rfl) rfl (by decide) (by decide) rfl
theorem one_28 : OneTy Tryd.prog 28 := oneTy_of Tryd.underlying28 rfl (by kernel_rfl)

end Go.Proofs.YtgpgjaebhfhjoaaDoor.s1Ty
