/- Facts on the types of this translation, each closed by the kernel. No conditions. -/
import Derived.Test.YtlmmjegbnmolcaaRows
import Derived.Test.YtlmmjegbnmolcaaPwR
namespace Go.Proofs.Ytlmmjegbnmolcaa.c1Ty
open Go.RowKit

def az (u : TypeId) : Nat := match u with | 71 => 2 | _ => 0

theorem sl_27 : SlTy Try.prog 27 3 1 8 [.int .i64 0] := slTy_of Try.underlying27 (z := .int .i64 0) (by kernel_rfl) rfl (by decide) (by decide) rfl
theorem one_3 : OneTy Try.prog 3 := oneTy_of Try.underlying3 rfl (by kernel_rfl)
theorem fi_71_0 : FiTy Try.prog 71 0 0 := fiTy_of (k := 1) Try.underlying71 rfl rfl (by kernel_rfl) (by decide)
theorem fi_71_1 : FiTy Try.prog 71 1 1 := fiTy_of (k := 1) Try.underlying71 rfl rfl (by kernel_rfl) (by decide)
theorem sl_24 : SlTy Try.prog 24 71 2 16 [.int .i64 0, .int .i64 0] := slTy_of Try.underlying24 (z := .agg #[.int .i64 0, .int .i64 0]) (by kernel_rfl) rfl (by decide) (by decide) rfl
theorem agg_71 : AggTy Try.prog 71 2 := aggTy_of Try.underlying71 rfl (by kernel_rfl)

end Go.Proofs.Ytlmmjegbnmolcaa.c1Ty
