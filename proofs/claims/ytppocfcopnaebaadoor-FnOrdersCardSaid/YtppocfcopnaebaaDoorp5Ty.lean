/- Facts on the types of this translation, each closed by the kernel. No conditions. -/
import Derived.Test.YtppocfcopnaebaaDoorRows
import Derived.Test.YtppocfcopnaebaaDoorPwR
namespace Go.Proofs.YtppocfcopnaebaaDoor.p5Ty
open Go.RowKit
def az (u : TypeId) : Nat := match u with  | _ => 0
theorem sl_24 : SlTy Tryd.prog 24 3 1 8 [.int .i64 0] := slTy_of Tryd.underlying24 (z := .int .i64 0) (by kernel_rfl) rfl (by decide) (by decide) rfl
theorem one_3 : OneTy Tryd.prog 3 := oneTy_of Tryd.underlying3 rfl (by kernel_rfl)
theorem sl_51 : SlTy Tryd.prog 51 32 10 80 [.int .i64 0, .int .i64 0, .int .i64 0, .int .i64 0, .int .i64 0, .int .i64 0, .int .i64 0, .int .i64 0, .int .i64 0, .int .i64 0] := slTy_of Tryd.underlying51 (z := .agg #[.int .i64 0, .int .i64 0, .int .i64 0, .int .i64 0, .int .i64 0, .int .i64 0, .int .i64 0, .int .i64 0, .int .i64 0, .int .i64 0]) (by kernel_rfl) rfl (by decide) (by decide) rfl
theorem arr_32 : ArTy Tryd.prog 32 10 1 := arTy_of Tryd.underlying32 (by kernel_rfl)
end Go.Proofs.YtppocfcopnaebaaDoor.p5Ty
