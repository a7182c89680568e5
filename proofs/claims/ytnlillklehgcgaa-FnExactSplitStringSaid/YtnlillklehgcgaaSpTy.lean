/- Facts on the types of this translation, each closed by the kernel. No conditions. -/
import Derived.Test.YtnlillklehgcgaaRows
import Derived.Test.YtnlillklehgcgaaPwR
namespace Go.Proofs.Ytnlillklehgcgaa.SpTy
open Go.RowKit

def az (u : TypeId) : Nat := match u with  | _ => 0

theorem sl_28 : SlTy Try.prog 28 5 1 1 [.int .u8 0] := slTy_of Try.underlying28 (z := .int .u8 0) (by kernel_rfl) rfl (by decide) (by decide) rfl
theorem sl_22 : SlTy Try.prog 22 9 1 16 [.str []] := slTy_of Try.underlying22 (z := .string ByteArray.empty) (by kernel_rfl) rfl (by decide) (by decide) rfl
theorem one_9 : OneTy Try.prog 9 := oneTy_of Try.underlying9 rfl (by kernel_rfl)

end Go.Proofs.Ytnlillklehgcgaa.SpTy
