/- Facts on the types of this translation, each closed by the kernel. No conditions. -/
import Derived.Test.YtfagllolcalfiaaDoorRows
import Derived.Test.YtfagllolcalfiaaDoorPwR
namespace Go.Proofs.YtfagllolcalfiaaDoor.w5Ty
open Go.RowKit
def az (u : TypeId) : Nat := match u with | 42 => 2 | _ => 0
theorem arr_42 : ArTy Tryd.prog 42 2 1 := arTy_of Tryd.underlying42 (by kernel_rfl)
theorem one_3 : OneTy Tryd.prog 3 := oneTy_of Tryd.underlying3 rfl (by kernel_rfl)
theorem sl_29 : SlTy Tryd.prog 29 42 2 16 [.int .i64 0, .int .i64 0] := slTy_of Tryd.underlying29 (z := .agg #[.int .i64 0, .int .i64 0]) (by kernel_rfl) rfl (by decide) (by decide) rfl
theorem agg_42 : AggTy Tryd.prog 42 2 := aggTy_of Tryd.underlying42 rfl (by kernel_rfl)
end Go.Proofs.YtfagllolcalfiaaDoor.w5Ty
