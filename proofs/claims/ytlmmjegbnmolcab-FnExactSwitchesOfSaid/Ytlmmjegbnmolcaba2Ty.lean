/- Facts on the types of this translation, each closed by the kernel. No conditions. -/
import Derived.Test.YtlmmjegbnmolcabRows
import Derived.Test.YtlmmjegbnmolcabPwR
namespace Go.Proofs.Ytlmmjegbnmolcab.a2Ty
open Go.RowKit

def az (u : TypeId) : Nat := match u with | 38 => 2 | 56 => 7 | _ => 0

theorem fi_38_0 : FiTy Try.prog 38 0 0 := fiTy_of (k := 1) Try.underlying38 rfl rfl (by kernel_rfl) (by decide)
theorem one_3 : OneTy Try.prog 3 := oneTy_of Try.underlying3 rfl (by kernel_rfl)
theorem fi_38_1 : FiTy Try.prog 38 1 1 := fiTy_of (k := 1) Try.underlying38 rfl rfl (by kernel_rfl) (by decide)
theorem agg_38 : AggTy Try.prog 38 2 := aggTy_of Try.underlying38 rfl (by kernel_rfl)
theorem sl_26 : SlTy Try.prog 26 38 2 16 [.int .i64 0, .int .i64 0] := slTy_of Try.underlying26 (z := .agg #[.int .i64 0, .int .i64 0]) (by kernel_rfl) rfl (by decide) (by decide) rfl
theorem agg_56 : AggTy Try.prog 56 7 := aggTy_of Try.underlying56 rfl (by kernel_rfl)
theorem zt_56 : ZeroTy Try.prog 56 [.int .i64 0, .int .i64 0, .int .i64 0, .int .i64 0, .int .i64 0, .int .i64 0, .int .i64 0] := zeroTy_of (z := .agg #[.int .i64 0, .int .i64 0, .int .i64 0, .int .i64 0, .int .i64 0, .int .i64 0, .int .i64 0]) (by kernel_rfl) rfl
theorem arr_56 : ArTy Try.prog 56 7 1 := arTy_of Try.underlying56 (by kernel_rfl)
theorem sl_54 : SlTy Try.prog 54 56 7 56 [.int .i64 0, .int .i64 0, .int .i64 0, .int .i64 0, .int .i64 0, .int .i64 0, .int .i64 0] := slTy_of Try.underlying54 (z := .agg #[.int .i64 0, .int .i64 0, .int .i64 0, .int .i64 0, .int .i64 0, .int .i64 0, .int .i64 0]) (by kernel_rfl) rfl (by decide) (by decide) rfl
theorem zt_54 : ZeroTy Try.prog 54 [.sl 0 []] := zeroTy_of (z := .slice none 0 0) (by kernel_rfl) rfl
theorem one_54 : OneTy Try.prog 54 := oneTy_of Try.underlying54 rfl (by kernel_rfl)
theorem zt_38 : ZeroTy Try.prog 38 [.int .i64 0, .int .i64 0] := zeroTy_of (z := .agg #[.int .i64 0, .int .i64 0]) (by kernel_rfl) rfl
theorem sl_44 : SlTy Try.prog 44 3 1 8 [.int .i64 0] := slTy_of Try.underlying44 (z := .int .i64 0) (by kernel_rfl) rfl (by decide) (by decide) rfl

end Go.Proofs.Ytlmmjegbnmolcab.a2Ty
