/- Facts on the types of this translation, each closed by the kernel. No conditions. -/
import Derived.Test.YtlipkomdajogiaaRows
import Derived.Test.YtlipkomdajogiaaPwR
namespace Go.Proofs.Ytlipkomdajogiaa.f4Ty
open Go.RowKit
def az (u : TypeId) : Nat := match u with | 47 => 7 | 62 => 2 | _ => 0
theorem sl_24 : SlTy Try.prog 24 62 2 16 [.int .i64 0, .int .i64 0] := slTy_of Try.underlying24 (z := .agg #[.int .i64 0, .int .i64 0]) (by kernel_rfl) rfl (by decide) (by decide) rfl
theorem agg_62 : AggTy Try.prog 62 2 := aggTy_of Try.underlying62 rfl (by kernel_rfl)
theorem one_3 : OneTy Try.prog 3 := oneTy_of Try.underlying3 rfl (by kernel_rfl)
theorem eqty_3 : EqTy Try.prog 3 [.int .i64] 1 := eqTy_int one_3 Try.underlying3
theorem eqty_62 : EqTy Try.prog 62 [.int .i64, .int .i64] 2 := eqTy_struct (ks := [.int .i64, .int .i64]) agg_62 Try.underlying62 (by kernel_rfl) ⟨(by kernel_rfl), rfl, [.int .i64], [.int .i64], rfl, EqTy.mono eqty_3 (by decide), ⟨(by kernel_rfl), rfl, [.int .i64], [], rfl, EqTy.mono eqty_3 (by decide), rfl⟩⟩
theorem eqg_62 : Try.prog.eqGuardType Try.prog.depth 62 = false := by kernel_rfl
theorem sl_27 : SlTy Try.prog 27 3 1 8 [.int .i64 0] := slTy_of Try.underlying27 (z := .int .i64 0) (by kernel_rfl) rfl (by decide) (by decide) rfl
theorem sl_33 : SlTy Try.prog 33 47 7 56 [.int .i64 0, .int .i64 0, .int .i64 0, .int .i64 0, .int .i64 0, .int .i64 0, .int .i64 0] := slTy_of Try.underlying33 (z := .agg #[.int .i64 0, .int .i64 0, .int .i64 0, .int .i64 0, .int .i64 0, .int .i64 0, .int .i64 0]) (by kernel_rfl) rfl (by decide) (by decide) rfl
theorem agg_47 : AggTy Try.prog 47 7 := aggTy_of Try.underlying47 rfl (by kernel_rfl)
theorem eqty_47 : EqTy Try.prog 47 (List.replicate 7 [.int .i64]).flatten 2 := eqTy_array agg_47 Try.underlying47 (by kernel_rfl) (by kernel_rfl) eqty_3
theorem eqg_47 : Try.prog.eqGuardType Try.prog.depth 47 = false := by kernel_rfl
theorem arr_47 : ArTy Try.prog 47 7 1 := arTy_of Try.underlying47 (by kernel_rfl)
end Go.Proofs.Ytlipkomdajogiaa.f4Ty
