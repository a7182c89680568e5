/- Facts on the types of this translation, each closed by the kernel. No conditions. -/
import Derived.Test.YtilpfcpjmfchbaaDoorRows
import Derived.Test.YtilpfcpjmfchbaaDoorPwR
namespace Go.Proofs.YtilpfcpjmfchbaaDoor.Im3fTy
open Go.RowKit

def az (u : TypeId) : Nat := match u with  | _ => 0

theorem fi_41_0 : FiTy Tryd.prog 41 0 0 := fiTy_of (k := 1) Tryd.underlying41 rfl rfl (by kernel_rfl) (by decide)
theorem one_3 : OneTy Tryd.prog 3 := oneTy_of Tryd.underlying3 rfl (by kernel_rfl)
theorem fi_41_1 : FiTy Tryd.prog 41 1 1 := fiTy_of (k := 1) Tryd.underlying41 rfl rfl (by kernel_rfl) (by decide)

end Go.Proofs.YtilpfcpjmfchbaaDoor.Im3fTy
