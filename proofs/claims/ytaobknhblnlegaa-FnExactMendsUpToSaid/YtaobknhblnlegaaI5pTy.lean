/- Facts on the types of this translation, each closed by the kernel. No conditions. -/
import Derived.Test.YtaobknhblnlegaaRows
import Derived.Test.YtaobknhblnlegaaPwR
namespace Go.Proofs.Ytaobknhblnlegaa.I5pTy
open Go.RowKit

def az (u : TypeId) : Nat := match u with | 46 => 8 | _ => 0

theorem one_22 : OneTy Try.prog 22 := oneTy_of Try.underlying22 rfl (by kernel_rfl)
theorem sl_22 : SlTy Try.prog 22 3 1 8 [.int .i64 0] := slTy_of Try.underlying22 (z := .int .i64 0) (by kernel_rfl) rfl (by decide) (by decide) rfl
theorem one_3 : OneTy Try.prog 3 := oneTy_of Try.underlying3 rfl (by kernel_rfl)
theorem agg_46 : AggTy Try.prog 46 8 := aggTy_of Try.underlying46 rfl (by kernel_rfl)
theorem zt_46 : ZeroTy Try.prog 46 [.sl 0 [], .sl 0 [], .sl 0 [], .sl 0 [], .sl 0 [], .sl 0 [], .sl 0 [], .sl 0 []] := zeroTy_of (z := .agg #[.slice none 0 0, .slice none 0 0, .slice none 0 0, .slice none 0 0, .slice none 0 0, .slice none 0 0, .slice none 0 0, .slice none 0 0]) (by kernel_rfl) rfl
theorem arr_46 : ArTy Try.prog 46 8 1 := arTy_of Try.underlying46 (by kernel_rfl)
theorem one_28 : OneTy Try.prog 28 := oneTy_of Try.underlying28 rfl (by kernel_rfl)
theorem bt_49 : BuildTy Try.prog 49 (fun i => some (i * 1, 1)) [.int .i64 0, .int .i64 0] := ⟨.agg #[.int .i64 0, .int .i64 0], rfl, fun parts => by kernel_rfl⟩
theorem sl_28 : SlTy Try.prog 28 49 2 16 [.int .i64 0, .int .i64 0] := slTy_of Try.underlying28 (z := .agg #[.int .i64 0, .int .i64 0]) (by kernel_rfl) rfl (by decide) (by decide) rfl

end Go.Proofs.Ytaobknhblnlegaa.I5pTy
