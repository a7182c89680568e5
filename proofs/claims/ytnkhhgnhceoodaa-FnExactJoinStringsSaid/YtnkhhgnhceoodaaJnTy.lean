/- Facts on the types of this translation, each closed by the kernel. No conditions. -/
import Derived.Test.YtnkhhgnhceoodaaRows
import Derived.Test.YtnkhhgnhceoodaaPwR
namespace Go.Proofs.Ytnkhhgnhceoodaa.JnTy
open Go.RowKit

def az (u : TypeId) : Nat := match u with  | _ => 0

theorem sl_22 : SlTy Try.prog 22 5 1 1 [.int .u8 0] := slTy_of Try.underlying22 (z := .int .u8 0) (by kernel_rfl) rfl (by decide) (by decide) rfl
theorem sl_26 : SlTy Try.prog 26 9 1 16 [.str []] := slTy_of Try.underlying26 (z := .string ByteArray.empty) (by kernel_rfl) rfl (by decide) (by decide) rfl
theorem one_9 : OneTy Try.prog 9 := oneTy_of Try.underlying9 rfl (by kernel_rfl)

end Go.Proofs.Ytnkhhgnhceoodaa.JnTy
