/- Facts on the types of this translation, each closed by the kernel. No conditions. -/
import Derived.Test.YtilpfcpjmfchbaaDoorRows
import Derived.Test.YtilpfcpjmfchbaaDoorPwR
namespace Go.Proofs.YtilpfcpjmfchbaaDoor.I4wTy
open Go.RowKit

def az (u : TypeId) : Nat := match u with | 50 => 7 | _ => 0

theorem one_31 : OneTy Tryd.prog 31 := oneTy_of Tryd.underlying31 rfl (by kernel_rfl)
theorem one_4 : OneTy Tryd.prog 4 := oneTy_of Tryd.underlying4 rfl (by kernel_rfl)
theorem zt_31 : ZeroTy Tryd.prog 31 [.sl 0 []] := zeroTy_of (z := .slice none 0 0) (by kernel_rfl) rfl
theorem zt_4 : ZeroTy Tryd.prog 4 [.bool false] := zeroTy_of (z := .bool false) (by kernel_rfl) rfl
theorem one_3 : OneTy Tryd.prog 3 := oneTy_of Tryd.underlying3 rfl (by kernel_rfl)
theorem sl_31 : SlTy Tryd.prog 31 50 7 56 [.int .i64 0, .int .i64 0, .int .i64 0, .int .i64 0, .int .i64 0, .int .i64 0, .int .i64 0] := slTy_of Tryd.underlying31 (z := .agg #[.int .i64 0, .int .i64 0, .int .i64 0, .int .i64 0, .int .i64 0, .int .i64 0, .int .i64 0]) (by kernel_rfl) rfl (by decide) (by decide) rfl
theorem sl_22 : SlTy Tryd.prog 22 3 1 8 [.int .i64 0] := slTy_of Tryd.underlying22 (z := .int .i64 0) (by kernel_rfl) rfl (by decide) (by decide) rfl
theorem agg_50 : AggTy Tryd.prog 50 7 := aggTy_of Tryd.underlying50 rfl (by kernel_rfl)

end Go.Proofs.YtilpfcpjmfchbaaDoor.I4wTy
