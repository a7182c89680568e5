/- Facts on the types of this translation, each closed by the kernel. No conditions. -/
import Derived.Test.YtfkdochnjcpedaaDoorRows
import Derived.Test.YtfkdochnjcpedaaDoorPwR
namespace Go.Proofs.YtfkdochnjcpedaaDoor.FTTy
open Go.RowKit

def az (u : TypeId) : Nat := match u with | 71 => 2 | _ => 0

theorem fi_71_0 : FiTy Tryd.prog 71 0 0 := fiTy_of (k := 1) Tryd.underlying71 rfl rfl (by kernel_rfl) (by decide)
theorem one_3 : OneTy Tryd.prog 3 := oneTy_of Tryd.underlying3 rfl (by kernel_rfl)
theorem fi_71_1 : FiTy Tryd.prog 71 1 1 := fiTy_of (k := 1) Tryd.underlying71 rfl rfl (by kernel_rfl) (by decide)
theorem sl_36 : SlTy Tryd.prog 36 71 2 16 [.int .i64 0, .int .i64 0] := slTy_of Tryd.underlying36 (z := .agg #[.int .i64 0, .int .i64 0]) (by kernel_rfl) rfl (by decide) (by decide) rfl
theorem agg_71 : AggTy Tryd.prog 71 2 := aggTy_of Tryd.underlying71 rfl (by kernel_rfl)

end Go.Proofs.YtfkdochnjcpedaaDoor.FTTy
