/- Facts on the types of this translation, each closed by the kernel. No conditions. -/
import Derived.Test.YthgiialammjcbabRows
import Derived.Test.YthgiialammjcbabPwR
namespace Go.Proofs.Ythgiialammjcbab.DrTy
open Go.RowKit

def az (u : TypeId) : Nat := match u with  | _ => 0

theorem fi_37_1 : FiTy Try.prog 37 1 1 := fiTy_of (k := 1) Try.underlying37 rfl rfl (by kernel_rfl) (by decide)
theorem one_3 : OneTy Try.prog 3 := oneTy_of Try.underlying3 rfl (by kernel_rfl)
theorem fi_37_0 : FiTy Try.prog 37 0 0 := fiTy_of (k := 1) Try.underlying37 rfl rfl (by kernel_rfl) (by decide)
theorem one_22 : OneTy Try.prog 22 := oneTy_of Try.underlying22 rfl (by kernel_rfl)
theorem sl_22 : SlTy Try.prog 22 5 1 1 [.int .u8 0] := slTy_of Try.underlying22 (z := .int .u8 0) (by kernel_rfl) rfl (by decide) (by decide) rfl
theorem one_5 : OneTy Try.prog 5 := oneTy_of Try.underlying5 rfl (by kernel_rfl)
theorem fi_37_2 : FiTy Try.prog 37 2 2 := fiTy_of (k := 1) Try.underlying37 rfl rfl (by kernel_rfl) (by decide)
theorem one_35 : OneTy Try.prog 35 := oneTy_of Try.underlying35 rfl (by kernel_rfl)

end Go.Proofs.Ythgiialammjcbab.DrTy
