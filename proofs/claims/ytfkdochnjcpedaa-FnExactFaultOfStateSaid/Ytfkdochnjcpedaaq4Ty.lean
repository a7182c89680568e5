/- Facts on the types of this translation, each closed by the kernel. No conditions. -/
import Derived.Test.YtfkdochnjcpedaaRows
import Derived.Test.YtfkdochnjcpedaaPwR
namespace Go.Proofs.Ytfkdochnjcpedaa.q4Ty
open Go.RowKit

def az (u : TypeId) : Nat := match u with | 23 => 2 | 25 => 2 | 29 => 2 | _ => 0

theorem agg_25 : AggTy Try.prog 25 2 := aggTy_of Try.underlying25 rfl (by kernel_rfl)
theorem zt_25 : ZeroTy Try.prog 25 [.int .i64 0, .int .i64 0] := zeroTy_of (z := .agg #[.int .i64 0, .int .i64 0]) (by kernel_rfl) rfl
theorem fi_23_0 : FiTy Try.prog 23 0 0 := fiTy_of (k := 1) Try.underlying23 rfl rfl (by kernel_rfl) (by decide)
theorem one_3 : OneTy Try.prog 3 := oneTy_of Try.underlying3 rfl (by kernel_rfl)
theorem fi_25_0 : FiTy Try.prog 25 0 0 := fiTy_of (k := 1) Try.underlying25 rfl rfl (by kernel_rfl) (by decide)
theorem fi_23_1 : FiTy Try.prog 23 1 1 := fiTy_of (k := 1) Try.underlying23 rfl rfl (by kernel_rfl) (by decide)
theorem fi_25_1 : FiTy Try.prog 25 1 1 := fiTy_of (k := 1) Try.underlying25 rfl rfl (by kernel_rfl) (by decide)
theorem fi_29_0 : FiTy Try.prog 29 0 0 := fiTy_of (k := 1) Try.underlying29 rfl rfl (by kernel_rfl) (by decide)
theorem fi_29_1 : FiTy Try.prog 29 1 1 := fiTy_of (k := 1) Try.underlying29 rfl rfl (by kernel_rfl) (by decide)
theorem agg_23 : AggTy Try.prog 23 2 := aggTy_of Try.underlying23 rfl (by kernel_rfl)
theorem zt_29 : ZeroTy Try.prog 29 [.int .i64 0, .int .i64 0] := zeroTy_of (z := .agg #[.int .i64 0, .int .i64 0]) (by kernel_rfl) rfl
theorem agg_29 : AggTy Try.prog 29 2 := aggTy_of Try.underlying29 rfl (by kernel_rfl)

end Go.Proofs.Ytfkdochnjcpedaa.q4Ty
