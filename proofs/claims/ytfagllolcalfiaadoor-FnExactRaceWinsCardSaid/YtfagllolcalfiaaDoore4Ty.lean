/- Facts on the types of this translation, each closed by the kernel. No conditions. -/
import Derived.Test.YtfagllolcalfiaaDoorRows
import Derived.Test.YtfagllolcalfiaaDoorPwR
namespace Go.Proofs.YtfagllolcalfiaaDoor.e4Ty
open Go.RowKit

def az (u : TypeId) : Nat := match u with  | _ => 0

theorem sl_24 : SlTy Tryd.prog 24 3 1 8 [.int .i64 0] := slTy_of Tryd.underlying24 (z := .int .i64 0) (by kernel_rfl) rfl (by decide) (by decide) rfl
theorem one_3 : OneTy Tryd.prog 3 := oneTy_of Tryd.underlying3 rfl (by kernel_rfl)
theorem sl_43 : SlTy Tryd.prog 43 4 1 1 [.bool false] := slTy_of Tryd.underlying43 (z := .bool false) (by kernel_rfl) rfl (by decide) (by decide) rfl
theorem one_4 : OneTy Tryd.prog 4 := oneTy_of Tryd.underlying4 rfl (by kernel_rfl)
theorem one_24 : OneTy Tryd.prog 24 := oneTy_of Tryd.underlying24 rfl (by kernel_rfl)
theorem zvt_3 : ZvTy Tryd.prog 3 (.int .i64 0) := zvTy_of (z := .int .i64 0) (by kernel_rfl) rfl
theorem zvt_4 : ZvTy Tryd.prog 4 (.bool false) := zvTy_of (z := .bool false) (by kernel_rfl) rfl
theorem zt_24 : ZeroTy Tryd.prog 24 [.sl 0 []] := zeroTy_of (z := .slice none 0 0) (by kernel_rfl) rfl

end Go.Proofs.YtfagllolcalfiaaDoor.e4Ty
