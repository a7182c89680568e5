/- Facts on the types of this translation, each closed by the kernel. No conditions. -/
import Derived.Test.YtlmmjegbnmolcaaRows
import Derived.Test.YtlmmjegbnmolcaaPwR
namespace Go.Proofs.Ytlmmjegbnmolcaa.c4Ty
open Go.RowKit

def az (u : TypeId) : Nat := match u with | 71 => 2 | 106 => 2 | _ => 0

theorem agg_71 : AggTy Try.prog 71 2 := aggTy_of Try.underlying71 rfl (by kernel_rfl)
theorem zt_71 : ZeroTy Try.prog 71 [.int .i64 0, .int .i64 0] := zeroTy_of (z := .agg #[.int .i64 0, .int .i64 0]) (by kernel_rfl) rfl
theorem fi_106_0 : FiTy Try.prog 106 0 0 := fiTy_of (k := 1) Try.underlying106 rfl rfl (by kernel_rfl) (by decide)
theorem one_3 : OneTy Try.prog 3 := oneTy_of Try.underlying3 rfl (by kernel_rfl)
theorem fi_71_0 : FiTy Try.prog 71 0 0 := fiTy_of (k := 1) Try.underlying71 rfl rfl (by kernel_rfl) (by decide)
theorem fi_106_1 : FiTy Try.prog 106 1 1 := fiTy_of (k := 1) Try.underlying106 rfl rfl (by kernel_rfl) (by decide)
theorem fi_71_1 : FiTy Try.prog 71 1 1 := fiTy_of (k := 1) Try.underlying71 rfl rfl (by kernel_rfl) (by decide)
theorem sl_24 : SlTy Try.prog 24 71 2 16 [.int .i64 0, .int .i64 0] := slTy_of Try.underlying24 (z := .agg #[.int .i64 0, .int .i64 0]) (by kernel_rfl) rfl (by decide) (by decide) rfl
theorem sl_53 : SlTy Try.prog 53 106 2 16 [.int .i64 0, .int .i64 0] := slTy_of Try.underlying53 (z := .agg #[.int .i64 0, .int .i64 0]) (by kernel_rfl) rfl (by decide) (by decide) rfl
theorem agg_106 : AggTy Try.prog 106 2 := aggTy_of Try.underlying106 rfl (by kernel_rfl)

end Go.Proofs.Ytlmmjegbnmolcaa.c4Ty
