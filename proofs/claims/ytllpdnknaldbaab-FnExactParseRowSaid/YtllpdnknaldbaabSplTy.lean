/- Facts on the types of this translation, each closed by the kernel. No conditions. -/
import Derived.Test.YtllpdnknaldbaabRows
import Derived.Test.YtllpdnknaldbaabPwR
namespace Go.Proofs.Ytllpdnknaldbaab.SplTy
open Go.RowKit

def az (u : TypeId) : Nat := match u with  | _ => 0

theorem sl_49 : SlTy Try.prog 49 9 1 16 [.str []] := slTy_of Try.underlying49 (z := .string ByteArray.empty) (by kernel_rfl) rfl (by decide) (by decide) rfl

end Go.Proofs.Ytllpdnknaldbaab.SplTy
