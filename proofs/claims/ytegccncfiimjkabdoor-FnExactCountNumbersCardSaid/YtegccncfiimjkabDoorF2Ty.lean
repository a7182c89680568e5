/- Facts on the types of this translation, each closed by the kernel. No conditions. -/
import Derived.Test.YtegccncfiimjkabDoorRows
import Derived.Test.YtegccncfiimjkabDoorPwR
namespace Go.Proofs.YtegccncfiimjkabDoor.F2Ty
open Go.RowKit

def az (u : TypeId) : Nat := match u with | 23 => 2 | 27 => 2 | _ => 0

theorem agg_27 : AggTy Tryd.prog 27 2 := aggTy_of Tryd.underlying27 rfl (by kernel_rfl)
theorem zt_27 : ZeroTy Tryd.prog 27 [.int .i64 0, .int .i64 0] := zeroTy_of (z := .agg #[.int .i64 0, .int .i64 0]) (by kernel_rfl) rfl
theorem fi_23_0 : FiTy Tryd.prog 23 0 0 := fiTy_of (k := 1) Tryd.underlying23 rfl rfl (by kernel_rfl) (by decide)
theorem one_3 : OneTy Tryd.prog 3 := oneTy_of Tryd.underlying3 rfl (by kernel_rfl)
theorem fi_27_0 : FiTy Tryd.prog 27 0 0 := fiTy_of (k := 1) Tryd.underlying27 rfl rfl (by kernel_rfl) (by decide)
theorem fi_23_1 : FiTy Tryd.prog 23 1 1 := fiTy_of (k := 1) Tryd.underlying23 rfl rfl (by kernel_rfl) (by decide)
theorem fi_27_1 : FiTy Tryd.prog 27 1 1 := fiTy_of (k := 1) Tryd.underlying27 rfl rfl (by kernel_rfl) (by decide)
theorem sl_46 : SlTy Tryd.prog 46 27 2 16 [.int .i64 0, .int .i64 0] := slTy_of Tryd.underlying46 (z := .agg #[.int .i64 0, .int .i64 0]) (by kernel_rfl) rfl (by decide) (by decide) rfl
theorem sl_43 : SlTy Tryd.prog 43 23 2 16 [.int .i64 0, .int .i64 0] := slTy_of Tryd.underlying43 (z := .agg #[.int .i64 0, .int .i64 0]) (by kernel_rfl) rfl (by decide) (by decide) rfl
theorem agg_23 : AggTy Tryd.prog 23 2 := aggTy_of Tryd.underlying23 rfl (by kernel_rfl)

end Go.Proofs.YtegccncfiimjkabDoor.F2Ty
