/- Facts on the types of this translation, each closed by the kernel. No conditions. -/
import Derived.Test.YthgiialammjcbabRows
import Derived.Test.YthgiialammjcbabPwR
namespace Go.Proofs.Ythgiialammjcbab.JnTy
open Go.RowKit

def az (u : TypeId) : Nat := match u with  | _ => 0

theorem sl_26 : SlTy Try.prog 26 9 1 16 [.str []] := slTy_of Try.underlying26 (z := .string ByteArray.empty) (by kernel_rfl) rfl (by decide) (by decide) rfl
theorem one_9 : OneTy Try.prog 9 := oneTy_of Try.underlying9 rfl (by kernel_rfl)

end Go.Proofs.Ythgiialammjcbab.JnTy
