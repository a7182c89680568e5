/- Facts on the types of this translation, each closed by the kernel. No conditions. -/
import Derived.Test.YtfkdochnjcpedabDoorRows
import Derived.Test.YtfkdochnjcpedabDoorPwR
namespace Go.Proofs.YtfkdochnjcpedabDoor.r4Ty
open Go.RowKit

def az (u : TypeId) : Nat := match u with | 39 => 2 | _ => 0

theorem fi_39_0 : FiTy Tryd.prog 39 0 0 := fiTy_of (k := 1) Tryd.underlying39 rfl rfl (by kernel_rfl) (by decide)
theorem one_3 : OneTy Tryd.prog 3 := oneTy_of Tryd.underlying3 rfl (by kernel_rfl)
theorem fi_39_1 : FiTy Tryd.prog 39 1 1 := fiTy_of (k := 1) Tryd.underlying39 rfl rfl (by kernel_rfl) (by decide)
theorem sl_23 : SlTy Tryd.prog 23 39 2 16 [.int .i64 0, .int .i64 0] := slTy_of Tryd.underlying23 (z := .agg #[.int .i64 0, .int .i64 0]) (by kernel_rfl) rfl (by decide) (by decide) rfl
theorem agg_39 : AggTy Tryd.prog 39 2 := aggTy_of Tryd.underlying39 rfl (by kernel_rfl)

end Go.Proofs.YtfkdochnjcpedabDoor.r4Ty
