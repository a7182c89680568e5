/- Facts on the types of this translation, each closed by the kernel. No conditions. -/
import Derived.Test.YtfagllolcalfiabDoorRows
import Derived.Test.YtfagllolcalfiabDoorPwR
namespace Go.Proofs.YtfagllolcalfiabDoor.y4Ty
open Go.RowKit
def az (u : TypeId) : Nat := match u with | 40 => 2 | _ => 0
theorem sl_22 : SlTy Tryd.prog 22 3 1 8 [.int .i64 0] := slTy_of Tryd.underlying22 (z := .int .i64 0) (by kernel_rfl) rfl (by decide) (by decide) rfl
theorem one_3 : OneTy Tryd.prog 3 := oneTy_of Tryd.underlying3 rfl (by kernel_rfl)
theorem zvt_3 : ZvTy Tryd.prog 3 (.int .i64 0) := zvTy_of (z := .int .i64 0) (by kernel_rfl) rfl
theorem sl_29 : SlTy Tryd.prog 29 40 2 16 [.int .i64 0, .int .i64 0] := slTy_of Tryd.underlying29 (z := .agg #[.int .i64 0, .int .i64 0]) (by kernel_rfl) rfl (by decide) (by decide) rfl
theorem bt_40 : BuildTy Tryd.prog 40 (fun i => some (i * 1, 1)) [.int .i64 0, .int .i64 0] := ⟨.agg #[.int .i64 0, .int .i64 0], rfl, fun parts => by kernel_rfl⟩
theorem arr_40 : ArTy Tryd.prog 40 2 1 := arTy_of Tryd.underlying40 (by kernel_rfl)
theorem one_22 : OneTy Tryd.prog 22 := oneTy_of Tryd.underlying22 rfl (by kernel_rfl)
theorem agg_40 : AggTy Tryd.prog 40 2 := aggTy_of Tryd.underlying40 rfl (by kernel_rfl)
theorem one_41 : OneTy Tryd.prog 41 := oneTy_of Tryd.underlying41 rfl (by kernel_rfl)
theorem zt_40 : ZeroTy Tryd.prog 40 [.int .i64 0, .int .i64 0] := zeroTy_of (z := .agg #[.int .i64 0, .int .i64 0]) (by kernel_rfl) rfl
end Go.Proofs.YtfagllolcalfiabDoor.y4Ty
