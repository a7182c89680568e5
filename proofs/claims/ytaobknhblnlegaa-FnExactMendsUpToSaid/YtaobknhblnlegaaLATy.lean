/- Facts on the types of this translation, each closed by the kernel. No conditions. -/
import Derived.Test.YtaobknhblnlegaaRows
import Derived.Test.YtaobknhblnlegaaPwR
namespace Go.Proofs.Ytaobknhblnlegaa.LATy
open Go.RowKit

def az (u : TypeId) : Nat := match u with | 49 => 2 | _ => 0

theorem arr_49 : ArTy Try.prog 49 2 1 := arTy_of Try.underlying49 (by kernel_rfl)
theorem one_3 : OneTy Try.prog 3 := oneTy_of Try.underlying3 rfl (by kernel_rfl)
theorem sl_28 : SlTy Try.prog 28 49 2 16 [.int .i64 0, .int .i64 0] := slTy_of Try.underlying28 (z := .agg #[.int .i64 0, .int .i64 0]) (by kernel_rfl) rfl (by decide) (by decide) rfl
theorem agg_49 : AggTy Try.prog 49 2 := aggTy_of Try.underlying49 rfl (by kernel_rfl)

end Go.Proofs.Ytaobknhblnlegaa.LATy
