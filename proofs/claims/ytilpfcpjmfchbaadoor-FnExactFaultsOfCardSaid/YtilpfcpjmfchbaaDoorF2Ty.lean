/- Facts on the types of this translation, each closed by the kernel. No conditions. -/
import Derived.Test.YtilpfcpjmfchbaaDoorRows
import Derived.Test.YtilpfcpjmfchbaaDoorPwR
namespace Go.Proofs.YtilpfcpjmfchbaaDoor.F2Ty
open Go.RowKit

def az (u : TypeId) : Nat := match u with | 41 => 2 | _ => 0

theorem fi_41_0 : FiTy Tryd.prog 41 0 0 := fiTy_of (k := 1) Tryd.underlying41 rfl rfl (by kernel_rfl) (by decide)
theorem one_3 : OneTy Tryd.prog 3 := oneTy_of Tryd.underlying3 rfl (by kernel_rfl)
theorem fi_41_1 : FiTy Tryd.prog 41 1 1 := fiTy_of (k := 1) Tryd.underlying41 rfl rfl (by kernel_rfl) (by decide)
theorem sl_23 : SlTy Tryd.prog 23 41 2 16 [.int .i64 0, .int .i64 0] := slTy_of Tryd.underlying23 (z := .agg #[.int .i64 0, .int .i64 0]) (by kernel_rfl) rfl (by decide) (by decide) rfl
theorem agg_41 : AggTy Tryd.prog 41 2 := aggTy_of Tryd.underlying41 rfl (by kernel_rfl)

end Go.Proofs.YtilpfcpjmfchbaaDoor.F2Ty
