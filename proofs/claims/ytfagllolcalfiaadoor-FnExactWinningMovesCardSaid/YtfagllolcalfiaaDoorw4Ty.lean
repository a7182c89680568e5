/- Facts on the types of this translation, each closed by the kernel. No conditions. -/
import Derived.Test.YtfagllolcalfiaaDoorRows
import Derived.Test.YtfagllolcalfiaaDoorPwR
namespace Go.Proofs.YtfagllolcalfiaaDoor.w4Ty
open Go.RowKit
def az (u : TypeId) : Nat := match u with | 42 => 2 | _ => 0
theorem sl_24 : SlTy Tryd.prog 24 3 1 8 [.int .i64 0] := slTy_of Tryd.underlying24 (z := .int .i64 0) (by kernel_rfl) rfl (by decide) (by decide) rfl
theorem one_3 : OneTy Tryd.prog 3 := oneTy_of Tryd.underlying3 rfl (by kernel_rfl)
theorem zvt_3 : ZvTy Tryd.prog 3 (.int .i64 0) := zvTy_of (z := .int .i64 0) (by kernel_rfl) rfl
theorem sl_29 : SlTy Tryd.prog 29 42 2 16 [.int .i64 0, .int .i64 0] := slTy_of Tryd.underlying29 (z := .agg #[.int .i64 0, .int .i64 0]) (by kernel_rfl) rfl (by decide) (by decide) rfl
theorem bt_42 : BuildTy Tryd.prog 42 (fun i => some (i * 1, 1)) [.int .i64 0, .int .i64 0] := ⟨.agg #[.int .i64 0, .int .i64 0], rfl, fun parts => by kernel_rfl⟩
theorem arr_42 : ArTy Tryd.prog 42 2 1 := arTy_of Tryd.underlying42 (by kernel_rfl)
theorem one_24 : OneTy Tryd.prog 24 := oneTy_of Tryd.underlying24 rfl (by kernel_rfl)
theorem agg_42 : AggTy Tryd.prog 42 2 := aggTy_of Tryd.underlying42 rfl (by kernel_rfl)
theorem one_56 : OneTy Tryd.prog 56 := oneTy_of Tryd.underlying56 rfl (by kernel_rfl)
theorem zt_42 : ZeroTy Tryd.prog 42 [.int .i64 0, .int .i64 0] := zeroTy_of (z := .agg #[.int .i64 0, .int .i64 0]) (by kernel_rfl) rfl
end Go.Proofs.YtfagllolcalfiaaDoor.w4Ty
