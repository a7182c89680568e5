/- Facts on the types of this translation, each closed by the kernel. No conditions. -/
import Derived.Test.YtfagllolcalfiabDoorRows
import Derived.Test.YtfagllolcalfiabDoorPwR
namespace Go.Proofs.YtfagllolcalfiabDoor.y5Ty
open Go.RowKit
def az (u : TypeId) : Nat := match u with | 40 => 2 | _ => 0
theorem sl_29 : SlTy Tryd.prog 29 40 2 16 [.int .i64 0, .int .i64 0] := slTy_of Tryd.underlying29 (z := .agg #[.int .i64 0, .int .i64 0]) (by kernel_rfl) rfl (by decide) (by decide) rfl
theorem sl_22 : SlTy Tryd.prog 22 3 1 8 [.int .i64 0] := slTy_of Tryd.underlying22 (z := .int .i64 0) (by kernel_rfl) rfl (by decide) (by decide) rfl
theorem agg_40 : AggTy Tryd.prog 40 2 := aggTy_of Tryd.underlying40 rfl (by kernel_rfl)
theorem arr_40 : ArTy Tryd.prog 40 2 1 := arTy_of Tryd.underlying40 (by kernel_rfl)
theorem one_3 : OneTy Tryd.prog 3 := oneTy_of Tryd.underlying3 rfl (by kernel_rfl)
theorem sl_79 : SlTy Tryd.prog 79 29 1 24 [.sl 0 []] := slTy_of Tryd.underlying79 (z := .slice none 0 0) (by kernel_rfl) rfl (by decide) (by decide) rfl
theorem one_29 : OneTy Tryd.prog 29 := oneTy_of Tryd.underlying29 rfl (by kernel_rfl)
theorem zt_40 : ZeroTy Tryd.prog 40 [.int .i64 0, .int .i64 0] := zeroTy_of (z := .agg #[.int .i64 0, .int .i64 0]) (by kernel_rfl) rfl
theorem bt_40 : BuildTy Tryd.prog 40 (fun i => some (i * 1, 1)) [.int .i64 0, .int .i64 0] := ⟨.agg #[.int .i64 0, .int .i64 0], rfl, fun parts => by kernel_rfl⟩
end Go.Proofs.YtfagllolcalfiabDoor.y5Ty
