/- Facts on the types of this translation, each closed by the kernel. No conditions. -/
import Derived.Test.YtlmmjegbnmolcaaRows
import Derived.Test.YtlmmjegbnmolcaaPwR
namespace Go.Proofs.Ytlmmjegbnmolcaa.d1Ty
open Go.RowKit

def az (u : TypeId) : Nat := match u with  | _ => 0

theorem sl_27 : SlTy Try.prog 27 3 1 8 [.int .i64 0] := slTy_of Try.underlying27 (z := .int .i64 0) (by kernel_rfl) rfl (by decide) (by decide) rfl
theorem one_3 : OneTy Try.prog 3 := oneTy_of Try.underlying3 rfl (by kernel_rfl)

end Go.Proofs.Ytlmmjegbnmolcaa.d1Ty
