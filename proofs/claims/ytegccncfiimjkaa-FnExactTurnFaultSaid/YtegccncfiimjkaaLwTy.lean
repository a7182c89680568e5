/- Facts on the types of this translation, each closed by the kernel. No conditions. -/
import Derived.Test.YtegccncfiimjkaaRows
import Derived.Test.YtegccncfiimjkaaPwR
namespace Go.Proofs.Ytegccncfiimjkaa.LwTy
open Go.RowKit

def az (u : TypeId) : Nat := match u with | 23 => 2 | 25 => 2 | _ => 0

theorem agg_23 : AggTy Try.prog 23 2 := aggTy_of Try.underlying23 rfl (by kernel_rfl)
theorem zt_25 : ZeroTy Try.prog 25 [.int .i64 0, .int .i64 0] := zeroTy_of (z := .agg #[.int .i64 0, .int .i64 0]) (by kernel_rfl) rfl
theorem agg_25 : AggTy Try.prog 25 2 := aggTy_of Try.underlying25 rfl (by kernel_rfl)

end Go.Proofs.Ytegccncfiimjkaa.LwTy
