/- Facts on the types of this translation, each closed by the kernel. No conditions. -/
import Derived.Test.YtfkdochnjcpedaaDoorRows
import Derived.Test.YtfkdochnjcpedaaDoorPwR
namespace Go.Proofs.YtfkdochnjcpedaaDoor.Im3fTy
open Go.RowKit

def az (u : TypeId) : Nat := match u with | 91 => 2 | _ => 0

theorem fi_91_0 : FiTy Tryd.prog 91 0 0 := fiTy_of (k := 1) Tryd.underlying91 rfl rfl (by kernel_rfl) (by decide)
theorem one_3 : OneTy Tryd.prog 3 := oneTy_of Tryd.underlying3 rfl (by kernel_rfl)
theorem fi_91_1 : FiTy Tryd.prog 91 1 1 := fiTy_of (k := 1) Tryd.underlying91 rfl rfl (by kernel_rfl) (by decide)
theorem agg_91 : AggTy Tryd.prog 91 2 := aggTy_of Tryd.underlying91 rfl (by kernel_rfl)

end Go.Proofs.YtfkdochnjcpedaaDoor.Im3fTy
