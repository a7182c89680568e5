/- Facts on the types of this translation, each closed by the kernel. No conditions. -/
import Derived.Test.YtjbbijlbenkgcaaDoorRows
import Derived.Test.YtjbbijlbenkgcaaDoorPwR
namespace Go.Proofs.YtjbbijlbenkgcaaDoor.I4wTy
open Go.RowKit

def az (u : TypeId) : Nat := match u with | 70 => 7 | _ => 0

theorem one_60 : OneTy Tryd.prog 60 := oneTy_of Tryd.underlying60 rfl (by kernel_rfl)
theorem one_4 : OneTy Tryd.prog 4 := oneTy_of Tryd.underlying4 rfl (by kernel_rfl)
theorem zt_60 : ZeroTy Tryd.prog 60 [.sl 0 []] := zeroTy_of (z := .slice none 0 0) (by kernel_rfl) rfl
theorem zt_4 : ZeroTy Tryd.prog 4 [.bool false] := zeroTy_of (z := .bool false) (by kernel_rfl) rfl
theorem one_3 : OneTy Tryd.prog 3 := oneTy_of Tryd.underlying3 rfl (by kernel_rfl)
theorem sl_60 : SlTy Tryd.prog 60 70 7 56 [.int .i64 0, .int .i64 0, .int .i64 0, .int .i64 0, .int .i64 0, .int .i64 0, .int .i64 0] := slTy_of Tryd.underlying60 (z := .agg #[.int .i64 0, .int .i64 0, .int .i64 0, .int .i64 0, .int .i64 0, .int .i64 0, .int .i64 0]) (by kernel_rfl) rfl (by decide) (by decide) rfl
theorem sl_24 : SlTy Tryd.prog 24 3 1 8 [.int .i64 0] := slTy_of Tryd.underlying24 (z := .int .i64 0) (by kernel_rfl) rfl (by decide) (by decide) rfl
theorem agg_70 : AggTy Tryd.prog 70 7 := aggTy_of Tryd.underlying70 rfl (by kernel_rfl)

end Go.Proofs.YtjbbijlbenkgcaaDoor.I4wTy
