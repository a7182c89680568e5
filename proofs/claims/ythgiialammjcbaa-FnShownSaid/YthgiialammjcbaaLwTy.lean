/- Facts on the types of this translation, each closed by the kernel. No conditions. -/
import Derived.Test.YthgiialammjcbaaRows
import Derived.Test.YthgiialammjcbaaPwR
namespace Go.Proofs.Ythgiialammjcbaa.LwTy
open Go.RowKit

def az (u : TypeId) : Nat := match u with | 25 => 2 | _ => 0

theorem zt_25 : ZeroTy Try.prog 25 [.int .i64 0, .int .i64 0] := zeroTy_of (z := .agg #[.int .i64 0, .int .i64 0]) (by kernel_rfl) rfl
theorem agg_25 : AggTy Try.prog 25 2 := aggTy_of Try.underlying25 rfl (by kernel_rfl)
theorem one_3 : OneTy Try.prog 3 := oneTy_of Try.underlying3 rfl (by kernel_rfl)
theorem eqty_3 : EqTy Try.prog 3 [.int .i64] 1 := eqTy_int one_3 Try.underlying3
theorem eqty_25 : EqTy Try.prog 25 [.int .i64, .int .i64] 2 := eqTy_struct (ks := [.int .i64, .int .i64]) agg_25 Try.underlying25 (by kernel_rfl) ⟨(by kernel_rfl), rfl, [.int .i64], [.int .i64], rfl, EqTy.mono eqty_3 (by decide), ⟨(by kernel_rfl), rfl, [.int .i64], [], rfl, EqTy.mono eqty_3 (by decide), rfl⟩⟩
theorem eqg_25 : Try.prog.eqGuardType Try.prog.depth 25 = false := by kernel_rfl
theorem sl_32 : SlTy Try.prog 32 25 2 16 [.int .i64 0, .int .i64 0] := slTy_of Try.underlying32 (z := .agg #[.int .i64 0, .int .i64 0]) (by kernel_rfl) rfl (by decide) (by decide) rfl
theorem sl_33 : SlTy Try.prog 33 3 1 8 [.int .i64 0] := slTy_of Try.underlying33 (z := .int .i64 0) (by kernel_rfl) rfl (by decide) (by decide) rfl
theorem fi_25_0 : FiTy Try.prog 25 0 0 := fiTy_of (k := 1) Try.underlying25 rfl rfl (by kernel_rfl) (by decide)
theorem fi_25_1 : FiTy Try.prog 25 1 1 := fiTy_of (k := 1) Try.underlying25 rfl rfl (by kernel_rfl) (by decide)

end Go.Proofs.Ythgiialammjcbaa.LwTy
