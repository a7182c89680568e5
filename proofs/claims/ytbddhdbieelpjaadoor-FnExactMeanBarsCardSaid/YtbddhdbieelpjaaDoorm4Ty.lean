/- Facts on the types of this translation, each closed by the kernel. No conditions. -/
import Derived.Test.YtbddhdbieelpjaaDoorRows
import Derived.Test.YtbddhdbieelpjaaDoorPwR
namespace Go.Proofs.YtbddhdbieelpjaaDoor.m4Ty
open Go.RowKit

def az (u : TypeId) : Nat := match u with | 26 => 2 | _ => 0

theorem arr_26 : ArTy Tryd.prog 26 2 1 := arTy_of Tryd.underlying26 (by kernel_rfl)
theorem one_3 : OneTy Tryd.prog 3 := oneTy_of Tryd.underlying3 rfl (by kernel_rfl)
theorem zt_26 : ZeroTy Tryd.prog 26 [.int .i64 0, .int .i64 0] := zeroTy_of (z := .agg #[.int .i64 0, .int .i64 0]) (by kernel_rfl) rfl
theorem agg_26 : AggTy Tryd.prog 26 2 := aggTy_of Tryd.underlying26 rfl (by kernel_rfl)

end Go.Proofs.YtbddhdbieelpjaaDoor.m4Ty
