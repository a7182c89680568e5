/- Facts on the types of this translation, each closed by the kernel. No conditions. -/
import Derived.Test.YtaobknhblnlegabRows
import Derived.Test.YtaobknhblnlegabPwR
namespace Go.Proofs.Ytaobknhblnlegab.I5pTy
open Go.RowKit

def az (u : TypeId) : Nat := match u with | 50 => 8 | _ => 0

theorem one_22 : OneTy Try.prog 22 := oneTy_of Try.underlying22 rfl (by kernel_rfl)
theorem sl_22 : SlTy Try.prog 22 3 1 8 [.int .i64 0] := slTy_of Try.underlying22 (z := .int .i64 0) (by kernel_rfl) rfl (by decide) (by decide) rfl
theorem one_3 : OneTy Try.prog 3 := oneTy_of Try.underlying3 rfl (by kernel_rfl)
theorem agg_50 : AggTy Try.prog 50 8 := aggTy_of Try.underlying50 rfl (by kernel_rfl)
theorem zt_50 : ZeroTy Try.prog 50 [.sl 0 [], .sl 0 [], .sl 0 [], .sl 0 [], .sl 0 [], .sl 0 [], .sl 0 [], .sl 0 []] := zeroTy_of (z := .agg #[.slice none 0 0, .slice none 0 0, .slice none 0 0, .slice none 0 0, .slice none 0 0, .slice none 0 0, .slice none 0 0, .slice none 0 0]) (by kernel_rfl) rfl
theorem arr_50 : ArTy Try.prog 50 8 1 := arTy_of Try.underlying50 (by kernel_rfl)
theorem one_49 : OneTy Try.prog 49 := oneTy_of Try.underlying49 rfl (by kernel_rfl)
theorem bt_68 : BuildTy Try.prog 68 (fun i => some (i * 1, 1)) [.int .i64 0, .int .i64 0] := ⟨.agg #[.int .i64 0, .int .i64 0], rfl, fun parts => by kernel_rfl⟩
theorem sl_49 : SlTy Try.prog 49 68 2 16 [.int .i64 0, .int .i64 0] := slTy_of Try.underlying49 (z := .agg #[.int .i64 0, .int .i64 0]) (by kernel_rfl) rfl (by decide) (by decide) rfl

end Go.Proofs.Ytaobknhblnlegab.I5pTy
