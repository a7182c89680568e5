/- Facts on the types of this translation, each closed by the kernel. No conditions. -/
import Derived.Test.YtjbbijlbenkgcaaDoorRows
import Derived.Test.YtjbbijlbenkgcaaDoorPwR
namespace Go.Proofs.YtjbbijlbenkgcaaDoor.S5pTy
open Go.RowKit

def az (u : TypeId) : Nat := match u with  | _ => 0

theorem sl_24 : SlTy Tryd.prog 24 3 1 8 [.int .i64 0] := slTy_of Tryd.underlying24 (z := .int .i64 0) (by kernel_rfl) rfl (by decide) (by decide) rfl
theorem one_3 : OneTy Tryd.prog 3 := oneTy_of Tryd.underlying3 rfl (by kernel_rfl)
theorem sl_45 : SlTy Tryd.prog 45 56 2 16 [.int .i64 0, .int .i64 0] := slTy_of Tryd.underlying45 (z := .agg #[.int .i64 0, .int .i64 0]) (by kernel_rfl) rfl (by decide) (by decide) rfl
theorem bt_56 : BuildTy Tryd.prog 56 (fun i => some (i * 1, 1)) [.int .i64 0, .int .i64 0] := ⟨.agg #[.int .i64 0, .int .i64 0], rfl, fun parts => by kernel_rfl⟩

end Go.Proofs.YtjbbijlbenkgcaaDoor.S5pTy
