/- Facts on the types of this translation, each closed by the kernel. No conditions. -/
import Derived.Test.YtkeekfodmjfbhaaDoorRows
import Derived.Test.YtkeekfodmjfbhaaDoorPwR
namespace Go.Proofs.YtkeekfodmjfbhaaDoor.o5Ty
open Go.RowKit

def az (u : TypeId) : Nat := match u with  | _ => 0

theorem sl_22 : SlTy Tryd.prog 22 3 1 8 [.int .i64 0] := slTy_of Tryd.underlying22 (z := .int .i64 0) (by kernel_rfl) rfl (by decide) (by decide) rfl
theorem one_3 : OneTy Tryd.prog 3 := oneTy_of Tryd.underlying3 rfl (by kernel_rfl)
theorem sl_30 : SlTy Tryd.prog 30 43 10 80 [.int .i64 0, .int .i64 0, .int .i64 0, .int .i64 0, .int .i64 0, .int .i64 0, .int .i64 0, .int .i64 0, .int .i64 0, .int .i64 0] := slTy_of Tryd.underlying30 (z := .agg #[.int .i64 0, .int .i64 0, .int .i64 0, .int .i64 0, .int .i64 0, .int .i64 0, .int .i64 0, .int .i64 0, .int .i64 0, .int .i64 0]) (by kernel_rfl) rfl (by decide) (by decide) rfl
theorem arr_43 : ArTy Tryd.prog 43 10 1 := arTy_of Tryd.underlying43 (by kernel_rfl)

end Go.Proofs.YtkeekfodmjfbhaaDoor.o5Ty
