/- Facts on the types of this translation, each closed by the kernel. No conditions. -/
import Derived.Test.YthgiialammjcbaaRows
import Derived.Test.YthgiialammjcbaaPwR
namespace Go.Proofs.Ythgiialammjcbaa.DrTy
open Go.RowKit

def az (u : TypeId) : Nat := match u with  | _ => 0

theorem fi_49_1 : FiTy Try.prog 49 1 1 := fiTy_of (k := 1) Try.underlying49 rfl rfl (by kernel_rfl) (by decide)
theorem one_3 : OneTy Try.prog 3 := oneTy_of Try.underlying3 rfl (by kernel_rfl)
theorem fi_49_0 : FiTy Try.prog 49 0 0 := fiTy_of (k := 1) Try.underlying49 rfl rfl (by kernel_rfl) (by decide)
theorem one_22 : OneTy Try.prog 22 := oneTy_of Try.underlying22 rfl (by kernel_rfl)
theorem sl_22 : SlTy Try.prog 22 5 1 1 [.int .u8 0] := slTy_of Try.underlying22 (z := .int .u8 0) (by kernel_rfl) rfl (by decide) (by decide) rfl
theorem one_5 : OneTy Try.prog 5 := oneTy_of Try.underlying5 rfl (by kernel_rfl)
theorem fi_49_2 : FiTy Try.prog 49 2 2 := fiTy_of (k := 1) Try.underlying49 rfl rfl (by kernel_rfl) (by decide)
theorem one_47 : OneTy Try.prog 47 := oneTy_of Try.underlying47 rfl (by kernel_rfl)
theorem sl_33 : SlTy Try.prog 33 3 1 8 [.int .i64 0] := slTy_of Try.underlying33 (z := .int .i64 0) (by kernel_rfl) rfl (by decide) (by decide) rfl

end Go.Proofs.Ythgiialammjcbaa.DrTy
