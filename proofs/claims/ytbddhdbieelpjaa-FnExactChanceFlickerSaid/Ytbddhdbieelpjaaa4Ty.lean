/- Facts on the types of this translation, each closed by the kernel. No conditions. -/
import Derived.Test.YtbddhdbieelpjaaRows
import Derived.Test.YtbddhdbieelpjaaPwR
namespace Go.Proofs.Ytbddhdbieelpjaa.a4Ty
open Go.RowKit

def az (u : TypeId) : Nat := match u with | 22 => 2 | _ => 0

theorem arr_22 : ArTy Try.prog 22 2 1 := arTy_of Try.underlying22 (by kernel_rfl)
theorem one_3 : OneTy Try.prog 3 := oneTy_of Try.underlying3 rfl (by kernel_rfl)
theorem zt_22 : ZeroTy Try.prog 22 [.int .i64 0, .int .i64 0] := zeroTy_of (z := .agg #[.int .i64 0, .int .i64 0]) (by kernel_rfl) rfl
theorem agg_22 : AggTy Try.prog 22 2 := aggTy_of Try.underlying22 rfl (by kernel_rfl)

end Go.Proofs.Ytbddhdbieelpjaa.a4Ty
