/- Facts on the types of this translation, each closed by the kernel. No conditions. -/
import Derived.Test.YtjbbijlbenkgcaaDoorRows
import Derived.Test.YtjbbijlbenkgcaaDoorPwR
namespace Go.Proofs.YtjbbijlbenkgcaaDoor.Im3fTy
open Go.RowKit

def az (u : TypeId) : Nat := match u with | 42 => 2 | _ => 0

theorem fi_42_0 : FiTy Tryd.prog 42 0 0 := fiTy_of (k := 1) Tryd.underlying42 rfl rfl (by kernel_rfl) (by decide)
theorem one_3 : OneTy Tryd.prog 3 := oneTy_of Tryd.underlying3 rfl (by kernel_rfl)
theorem fi_42_1 : FiTy Tryd.prog 42 1 1 := fiTy_of (k := 1) Tryd.underlying42 rfl rfl (by kernel_rfl) (by decide)
theorem agg_42 : AggTy Tryd.prog 42 2 := aggTy_of Tryd.underlying42 rfl (by kernel_rfl)
theorem sl_24 : SlTy Tryd.prog 24 3 1 8 [.int .i64 0] := slTy_of Tryd.underlying24 (z := .int .i64 0) (by kernel_rfl) rfl (by decide) (by decide) rfl
theorem sl_27 : SlTy Tryd.prog 27 42 2 16 [.int .i64 0, .int .i64 0] := slTy_of Tryd.underlying27 (z := .agg #[.int .i64 0, .int .i64 0]) (by kernel_rfl) rfl (by decide) (by decide) rfl
theorem zt_42 : ZeroTy Tryd.prog 42 [.int .i64 0, .int .i64 0] := zeroTy_of (z := .agg #[.int .i64 0, .int .i64 0]) (by kernel_rfl) rfl

end Go.Proofs.YtjbbijlbenkgcaaDoor.Im3fTy
