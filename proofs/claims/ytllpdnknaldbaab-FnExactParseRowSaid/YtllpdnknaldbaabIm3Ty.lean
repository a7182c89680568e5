/- Facts on the types of this translation, each closed by the kernel. No conditions. -/
import Derived.Test.YtllpdnknaldbaabRows
import Derived.Test.YtllpdnknaldbaabPwR
namespace Go.Proofs.Ytllpdnknaldbaab.Im3Ty
open Go.RowKit

def az (u : TypeId) : Nat := match u with  | _ => 0

theorem sl_28 : SlTy Try.prog 28 3 1 8 [.int .i64 0] := slTy_of Try.underlying28 (z := .int .i64 0) (by kernel_rfl) rfl (by decide) (by decide) rfl
theorem sl_49 : SlTy Try.prog 49 9 1 16 [.str []] := slTy_of Try.underlying49 (z := .string ByteArray.empty) (by kernel_rfl) rfl (by decide) (by decide) rfl
theorem one_9 : OneTy Try.prog 9 := oneTy_of Try.underlying9 rfl (by kernel_rfl)
theorem one_3 : OneTy Try.prog 3 := oneTy_of Try.underlying3 rfl (by kernel_rfl)

end Go.Proofs.Ytllpdnknaldbaab.Im3Ty
