/- Facts on the types of this translation, each closed by the kernel. No conditions. -/
import Derived.Test.YtfkdochnjcpedabDoorRows
import Derived.Test.YtfkdochnjcpedabDoorPwR
namespace Go.Proofs.YtfkdochnjcpedabDoor.q4Ty
open Go.RowKit

def az (u : TypeId) : Nat := match u with | 37 => 2 | 39 => 2 | _ => 0

theorem agg_39 : AggTy Tryd.prog 39 2 := aggTy_of Tryd.underlying39 rfl (by kernel_rfl)
theorem zt_39 : ZeroTy Tryd.prog 39 [.int .i64 0, .int .i64 0] := zeroTy_of (z := .agg #[.int .i64 0, .int .i64 0]) (by kernel_rfl) rfl
theorem fi_37_0 : FiTy Tryd.prog 37 0 0 := fiTy_of (k := 1) Tryd.underlying37 rfl rfl (by kernel_rfl) (by decide)
theorem one_3 : OneTy Tryd.prog 3 := oneTy_of Tryd.underlying3 rfl (by kernel_rfl)
theorem fi_39_0 : FiTy Tryd.prog 39 0 0 := fiTy_of (k := 1) Tryd.underlying39 rfl rfl (by kernel_rfl) (by decide)
theorem fi_37_1 : FiTy Tryd.prog 37 1 1 := fiTy_of (k := 1) Tryd.underlying37 rfl rfl (by kernel_rfl) (by decide)
theorem fi_39_1 : FiTy Tryd.prog 39 1 1 := fiTy_of (k := 1) Tryd.underlying39 rfl rfl (by kernel_rfl) (by decide)
theorem agg_37 : AggTy Tryd.prog 37 2 := aggTy_of Tryd.underlying37 rfl (by kernel_rfl)

end Go.Proofs.YtfkdochnjcpedabDoor.q4Ty
