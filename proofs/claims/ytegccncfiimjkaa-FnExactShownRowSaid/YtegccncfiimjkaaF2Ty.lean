/- Facts on the types of this translation, each closed by the kernel. No conditions. -/
import Derived.Test.YtegccncfiimjkaaRows
import Derived.Test.YtegccncfiimjkaaPwR
namespace Go.Proofs.Ytegccncfiimjkaa.F2Ty
open Go.RowKit

def az (u : TypeId) : Nat := match u with | 23 => 2 | 25 => 2 | _ => 0

theorem agg_25 : AggTy Try.prog 25 2 := aggTy_of Try.underlying25 rfl (by kernel_rfl)
theorem zt_25 : ZeroTy Try.prog 25 [.int .i64 0, .int .i64 0] := zeroTy_of (z := .agg #[.int .i64 0, .int .i64 0]) (by kernel_rfl) rfl
theorem fi_23_0 : FiTy Try.prog 23 0 0 := fiTy_of (k := 1) Try.underlying23 rfl rfl (by kernel_rfl) (by decide)
theorem one_3 : OneTy Try.prog 3 := oneTy_of Try.underlying3 rfl (by kernel_rfl)
theorem fi_25_0 : FiTy Try.prog 25 0 0 := fiTy_of (k := 1) Try.underlying25 rfl rfl (by kernel_rfl) (by decide)
theorem fi_23_1 : FiTy Try.prog 23 1 1 := fiTy_of (k := 1) Try.underlying23 rfl rfl (by kernel_rfl) (by decide)
theorem fi_25_1 : FiTy Try.prog 25 1 1 := fiTy_of (k := 1) Try.underlying25 rfl rfl (by kernel_rfl) (by decide)
theorem sl_36 : SlTy Try.prog 36 25 2 16 [.int .i64 0, .int .i64 0] := slTy_of Try.underlying36 (z := .agg #[.int .i64 0, .int .i64 0]) (by kernel_rfl) rfl (by decide) (by decide) rfl
theorem sl_31 : SlTy Try.prog 31 23 2 16 [.int .i64 0, .int .i64 0] := slTy_of Try.underlying31 (z := .agg #[.int .i64 0, .int .i64 0]) (by kernel_rfl) rfl (by decide) (by decide) rfl
theorem agg_23 : AggTy Try.prog 23 2 := aggTy_of Try.underlying23 rfl (by kernel_rfl)

end Go.Proofs.Ytegccncfiimjkaa.F2Ty
