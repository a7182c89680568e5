/- Facts on the types of this translation, each closed by the kernel. No conditions. -/
import Derived.Test.YtnlillklehgcgaaRows
import Derived.Test.YtnlillklehgcgaaPwR
namespace Go.Proofs.Ytnlillklehgcgaa.SqTy
open Go.RowKit

def az (u : TypeId) : Nat := match u with  | _ => 0

theorem sl_22 : SlTy Try.prog 22 9 1 16 [.str []] := slTy_of Try.underlying22 (z := .string ByteArray.empty) (by kernel_rfl) rfl (by decide) (by decide) rfl

end Go.Proofs.Ytnlillklehgcgaa.SqTy
