/- Facts on the types of this translation, each closed by the kernel. No conditions. -/
import Derived.Test.YtegccncfiimjkabDoorRows
import Derived.Test.YtegccncfiimjkabDoorPwR
namespace Go.Proofs.YtegccncfiimjkabDoor.S3Ty
open Go.RowKit

def az (u : TypeId) : Nat := match u with | 27 => 2 | _ => 0

theorem fi_27_0 : FiTy Tryd.prog 27 0 0 := fiTy_of (k := 1) Tryd.underlying27 rfl rfl (by kernel_rfl) (by decide)
theorem one_3 : OneTy Tryd.prog 3 := oneTy_of Tryd.underlying3 rfl (by kernel_rfl)
theorem fi_27_1 : FiTy Tryd.prog 27 1 1 := fiTy_of (k := 1) Tryd.underlying27 rfl rfl (by kernel_rfl) (by decide)
theorem sl_24 : SlTy Tryd.prog 24 3 1 8 [.int .i64 0] := slTy_of Tryd.underlying24 (z := .int .i64 0) (by kernel_rfl) rfl (by decide) (by decide) rfl
theorem agg_27 : AggTy Tryd.prog 27 2 := aggTy_of Tryd.underlying27 rfl (by kernel_rfl)

end Go.Proofs.YtegccncfiimjkabDoor.S3Ty
