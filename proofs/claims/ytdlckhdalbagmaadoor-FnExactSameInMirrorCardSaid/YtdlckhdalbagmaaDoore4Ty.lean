/- Facts on the types of this translation, each closed by the kernel. No conditions. -/
import Derived.Test.YtdlckhdalbagmaaDoorRows
import Derived.Test.YtdlckhdalbagmaaDoorPwR
namespace Go.Proofs.YtdlckhdalbagmaaDoor.e4Ty
open Go.RowKit

def az (u : TypeId) : Nat := match u with | 52 => 2 | _ => 0

theorem arr_52 : ArTy Tryd.prog 52 2 1 := arTy_of Tryd.underlying52 (by kernel_rfl)
theorem one_3 : OneTy Tryd.prog 3 := oneTy_of Tryd.underlying3 rfl (by kernel_rfl)
theorem sl_48 : SlTy Tryd.prog 48 52 2 16 [.int .i64 0, .int .i64 0] := slTy_of Tryd.underlying48 (z := .agg #[.int .i64 0, .int .i64 0]) (by kernel_rfl) rfl (by decide) (by decide) rfl
theorem agg_52 : AggTy Tryd.prog 52 2 := aggTy_of Tryd.underlying52 rfl (by kernel_rfl)

end Go.Proofs.YtdlckhdalbagmaaDoor.e4Ty
