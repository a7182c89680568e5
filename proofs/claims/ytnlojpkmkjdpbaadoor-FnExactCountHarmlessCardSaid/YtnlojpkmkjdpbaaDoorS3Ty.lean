/- Facts on the types of this translation, each closed by the kernel. No conditions. -/
import Derived.Test.YtnlojpkmkjdpbaaDoorRows
import Derived.Test.YtnlojpkmkjdpbaaDoorPwR
namespace Go.Proofs.YtnlojpkmkjdpbaaDoor.S3Ty
open Go.RowKit

def az (u : TypeId) : Nat := match u with | 36 => 2 | _ => 0

theorem fi_36_0 : FiTy Tryd.prog 36 0 0 := fiTy_of (k := 1) Tryd.underlying36 rfl rfl (by kernel_rfl) (by decide)
theorem one_3 : OneTy Tryd.prog 3 := oneTy_of Tryd.underlying3 rfl (by kernel_rfl)
theorem fi_36_1 : FiTy Tryd.prog 36 1 1 := fiTy_of (k := 1) Tryd.underlying36 rfl rfl (by kernel_rfl) (by decide)
theorem sl_25 : SlTy Tryd.prog 25 3 1 8 [.int .i64 0] := slTy_of Tryd.underlying25 (z := .int .i64 0) (by kernel_rfl) rfl (by decide) (by decide) rfl
theorem agg_36 : AggTy Tryd.prog 36 2 := aggTy_of Tryd.underlying36 rfl (by kernel_rfl)

end Go.Proofs.YtnlojpkmkjdpbaaDoor.S3Ty
